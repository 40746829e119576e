/- Values that came in and hold no address (numbers, bools, strings, and structs and arrays of these): their cells, opened; slices of such.  but the kernel's look at the type; Operations: numbers, bools, structs, memory that is read and written. Conditions: what a type is, by the kernel; Operations that make memory, and write it. Conditions: what a type is, by the kernel; Operations on slices: made, cut, grown; tuples; function values; structs. Conditions: what a type is, by the kernel; Ends of calls; structs built; bools and strings compared; least and greatest; slices taken over, and given up. Conditions: what a type is, by the kernel; Strings: put together, cut, indexed, ranged over; numbers by their bits; From a contract to the statement: a law whose call returns true whatever its arguments read as; with listed variables, too.  but the kernel's look at the program; Arrays as values, ind. No condition. -/
import Derived.Test.YtcbfnbfhlofkiaaQ4
import Derived.Test.YtcbfnbfhlofkiaaRows
namespace Go.Proofs.Ytcbfnbfhlofkiaa
theorem ya {p : Prop} [Decidable p] : decide p = false ↔ ¬p := _root_.decide_eq_false_iff_not
theorem yb {α : Type _} [BEq α] [LawfulBEq α] {a b : α} : (a == b) = false ↔ a ≠ b := _root_.beq_eq_false_iff_ne
theorem yc {α : Type _} [BEq α] [LawfulBEq α] {a b : α} : (a != b) = false ↔ a = b := _root_.bne_eq_false_iff_eq
theorem yd {x y : Bool} : (x || y) = false ↔ x = false ∧ y = false := _root_.Bool.or_eq_false_iff
theorem ye {b : Bool} : ((!b) = false) = (b = true) := by cases b <;> simp
theorem yf {b : Bool} : ((!b) = true) = (b = false) := by cases b <;> simp
theorem yg {p : Prop} [Decidable p] : (decide p = true) = p := _root_.decide_eq_true_eq
theorem yh {a b : Bool} : ((a && b) = true) = (a = true ∧ b = true) := _root_.Bool.and_eq_true a b
theorem yi {a b : Bool} : ((a || b) = true) = (a = true ∨ b = true) := _root_.Bool.or_eq_true a b
theorem yj {p : Prop} [Decidable p] : ¬¬p ↔ p := _root_.Decidable.not_not
set_option linter.unusedVariables false
set_option linter.unusedSimpArgs false
open Go.RowKit Go.Deep
section
variable {H : Type} {enc : TypeId × Value → H} {P : Program} {w : World} {base : Nat} {spare : Nat → Bool} {held : Bool}
/-- a row in memory: each element's cells -/
def rowsAt {α : Type} (w : World) (b off sz : Nat) (en : α → List Value) (l : List α) : Prop :=
  b < w.heap.size ∧ ∀ k (h : k < l.length) j, j < sz → w.cell? ⟨b, off + k * sz + j, none⟩ = (en l[k])[j]?
/-- a slice's place and length, and what it holds -/
def rowV {α : Type} (W : World) (a0 : Option Addr) (len sz : Nat) (en : α → List Value) (l : List α) : Prop := len = l.length ∧ (l = [] ∨ ∃ b off, a0 = some ⟨b, off, none⟩ ∧ rowsAt W b off sz en l)
theorem list_of' {α : Type} (n : Nat) (p : Nat → α → Prop) (h : ∀ i, i < n → ∃ c, p i c) : ∃ l : List α, l.length = n ∧ ∀ i (hi : i < l.length), p i l[i] := by
  induction n with
  | zero => exact ⟨[], rfl, fun i hi => absurd hi (by simp)⟩
  | succ n ih =>
    obtain ⟨l, hl, hp⟩ := ih fun i hi => h i (by omega)
    obtain ⟨c, hc⟩ := h n (by omega)
    refine ⟨l ++ [c], by simp [hl], fun i hi => ?_⟩
    by_cases e : i < l.length
    · rw [List.getElem_append_left e]; exact hp i e
    · have : i = n := by simp [hl] at hi; omega
      subst this
      simp [List.getElem_append_right (show l.length ≤ i by omega), hl, hc]
/-- A slice whose elements hold no address, opened. -/
theorem open_row {α : Type} {t e : TypeId} {ps : List Prim} (f : Nat) (en : α → List Value) (ok : α → Prop) (hP : ∀ cs, fitsP ps cs → ∃ a, ok a ∧ cs = en a) (ht : P.underlying t = some (.slice e)) (hf : flatT P f e = some ps) (hc : P.cellsOf e = ps.length) (hpos : 0 < ps.length)
    {a0 : Option Addr} {len cap : Nat} {d : DataW H} {p : List MemPlace} (h : DataW.Trod enc P w base spare held t (.slice a0 len cap) d p) :
    ∃ l, rowV w a0 len ps.length en l ∧ (∀ a ∈ l, ok a) ∧ len ≤ cap ∧ cap ≤ maxLen ∧ (a0 = none → cap = 0) := by
  obtain ⟨fuel, hfu⟩ := h
  rcases open_slice ht hfu with ⟨hcs, hx⟩ | ⟨a, len', cap', m, n, D, Pl, hcs, _, hl, hm, hmm, hx, hel⟩
  · simp [Value.cells] at hcs
    obtain ⟨rfl, rfl, rfl⟩ := hcs
    exact ⟨[], ⟨rfl, .inl rfl⟩, by simp, Nat.le_refl _, Nat.zero_le _, fun _ => rfl⟩
  · simp [Value.cells] at hcs
    obtain ⟨rfl, rfl, rfl⟩ := hcs
    have hlm : len ≤ m := by rw [hmm]; split <;> omega
    rw [hc] at hel
    obtain ⟨l, hll, hp⟩ := list_of' len (fun i (c : α) => ok c ∧ w.cells? base (a.add (i * ps.length)) ps.length = some (en c)) (by
      intro i hi
      obtain ⟨cs, h1, h2⟩ := hel i (by omega)
      obtain ⟨c, hok, rfl⟩ := hP cs (flat_trod f _ _ _ _ _ hf h2)
      exact ⟨c, hok, h1⟩)
    refine ⟨l, ⟨hll.symm, ?_⟩, ?_, hl, hm, fun e => by cases e⟩
    · by_cases h0 : l = []
      · exact .inl h0
      · right
        have hlp : 0 < l.length := List.length_pos_iff.2 h0
        obtain ⟨b, off, spot⟩ := a
        have hg := World.cells?_some (hp 0 hlp).2
        have hc0 := hg.2.2 0 hpos
        rw [List.getElem?_eq_getElem (by rw [hg.2.1]; exact hpos)] at hc0
        replace hc0 : ∃ v0, w.cell? (((⟨b, off, spot⟩ : Addr).add (0 * ps.length)).add 0) = some v0 := ⟨_, hc0⟩
        obtain ⟨v0, hc0⟩ := hc0
        have hs := World.cell?_spot hc0
        have hspot : spot = none := by simpa [Addr.add] using hs
        subst hspot
        have hpl : ∀ o k, (⟨b, o, none⟩ : Addr).add k = ⟨b, o + k, none⟩ := fun o k => by simp [Addr.add]
        refine ⟨b, off, rfl, ?_, fun k hk j hj => ?_⟩
        · rw [hpl, hpl] at hc0
          exact World.block_lt_of_cell? _ _ hc0
        · have := (World.cells?_some (hp k hk).2).2.2 j hj
          rw [hpl, hpl] at this
          exact this
    · intro c hcm
      obtain ⟨i, hi, rfl⟩ := List.getElem_of_mem hcm
      exact (hp i hi).1
end
open Go.RowKit

/-! ### what a type is -/
section
variable {P : Program} {pc : Bool} {o : Oper} {F : Fr} {M : List Blk}
section
variable {T T' : TypeId} {x y : Operand} {k : IntKind} {p q : Int}
end
section
variable {T : TypeId} {x : Operand} {i p k : Nat} {L R : List Value} {v : Value}
theorem op_ldoa {T' : TypeId} {sz n : Nat} (ho : o.op = .load T x) (hT : tyB P T = some (false, k)) (hx : Ev pc F x (.aloc i p)) (hM : M[i]? = some (.arr T' sz n L)) (hR : L[p]? = some v) : DOp P pc o F M [i] (.val v) [] := by
  intro hp a s hok hops hfp
  have hr := ev_at hp hx (by simp [ho, Op.operands]) hops
  generalize hv : a.eval x = vx at hr
  cases hr with
  | @aloc _ _ n' c b h =>
    obtain ⟨_, _, _, _, hc, _⟩ := arr_cells hok (by rw [hfp i (by simp)]; exact hM) h
    exact dg_val hok (run_load_one ho hT hv (by simpa using hc p v hR)) (.val _)

/-! ### addresses -/
theorem op_faa {f q : Nat} (ho : o.op = .fieldAddr T x f) (hT : fdO P T f = some q) (hx : Ev pc F x (.aloc i p)) : DOp P pc o F M [] (.aloc i (p + q)) [] := by
  intro hp a s hok hops hfp
  have hr := ev_at hp hx (by simp [ho, Op.operands]) hops
  generalize hv : a.eval x = vx at hr
  cases hr with
  | @aloc _ _ n' c b h => exact dg_val hok (run_fieldAddr ho hT hv) (.aloc h)
end
section
variable {T : TypeId} {x y : Operand} {i p n sz : Nat} {k : IntKind} {z : Int} {L : List Value}
theorem op_ixal (ho : o.op = .indexAddr T x y) (hT : arE P T = some (n, sz)) (hx : Ev pc F x (.aloc i p)) (hy : Ev pc F y (.val (.int k z))) (h : pc = true → 0 ≤ z ∧ z < n) : DOp P pc o F M [] (.aloc i (p + z.toNat * sz)) [] := by
  intro hp a s hok hops hfp
  have hr := ev_at hp hx (by simp [ho, Op.operands]) hops
  have h2 := (ev_at hp hy (by simp [ho, Op.operands]) hops).val_eq
  generalize hv : a.eval x = vx at hr
  cases hr with
  | @aloc _ _ n' c b hb => exact dg_val hok (run_index_arr ho hT hv h2 (h hp).1 (h hp).2) (.aloc hb)
variable {e : TypeId} {by' m : Nat}
end
end
theorem flat_set_part {α : Type} {en : α → List Value} {sz : Nat} (hen : ∀ a, (en a).length = sz) {l : List α} {j c : Nat} {C : List Value} (hj : j < l.length) (hc : c + C.length ≤ sz) {x : α} (hx : setL (en l[j]) c C = en x) : setL (l.flatMap en) (j * sz + c) C = (l.set j x).flatMap en := by
  rw [← flat_set hen hj, ← hx]
  have h1 : (j + 1) * sz ≤ l.length * sz := Nat.mul_le_mul_right _ hj
  rw [Nat.succ_mul] at h1
  have hl := flat_len hen l
  have e1 : l.flatMap en = (l.flatMap en).take (j * sz) ++ en l[j] ++ (l.flatMap en).drop (j * sz + sz) := by
    have h2 := flat_one hen hj
    rw [← h2, List.append_assoc, ← List.drop_drop, List.take_append_drop, List.take_append_drop]
  have hlen0 : ((l.flatMap en).take (j * sz)).length = j * sz := by rw [List.length_take, hl]; omega
  generalize hA : (l.flatMap en).take (j * sz) = A at e1 hlen0
  generalize hB : (l.flatMap en).drop (j * sz + sz) = B at e1
  generalize l.flatMap en = X at e1 hl
  subst e1
  have he := hen l[j]
  generalize en l[j] = E at *
  have hlE : (setL E c C).length = E.length := setL_len _ _ _
  rw [setL_eq C _ _ (by simp; omega), setL_eq (setL E c C) _ _ (by simp; omega), hlE, setL_eq C E c (by omega)]
  have t1 : (A ++ E ++ B).take (j * sz + c) = A ++ E.take c := by
    rw [List.append_assoc, List.take_append, List.take_of_length_le (by omega), hlen0, show j * sz + c - j * sz = c by omega, List.take_append_of_le_length (by omega)]
  have t2 : (A ++ E ++ B).drop (j * sz + c + C.length) = E.drop (c + C.length) ++ B := by
    rw [List.append_assoc, List.drop_append, List.drop_eq_nil_of_le (by omega), List.nil_append, hlen0, show j * sz + c + C.length - j * sz = c + C.length by omega, List.drop_append_of_le_length (by omega)]
  have t3 : (A ++ E ++ B).take (j * sz) = A := by
    rw [List.append_assoc, List.take_append_of_le_length (by omega), List.take_of_length_le (by omega)]
  have t4 : (A ++ E ++ B).drop (j * sz + E.length) = B := by
    rw [List.drop_append, List.drop_eq_nil_of_le (by simp; omega), List.nil_append]
    simp [hlen0]
  rw [t1, t2, t3, t4]
  simp
section
variable {P : Program} {pc : Bool} {o : Oper} {F : Fr} {M : List Blk}
theorem op_sta {T T' : TypeId} {x y : Operand} {i p k sz n : Nat} {rw' : Bool} {v : Value} {L C L' : List Value} (ho : o.op = .store T x y) (hT : tyB P T = some (rw', k)) (hx : Ev pc F x (.aloc i p)) (hy : Ev pc F y (.val v)) (hM : M[i]? = some (.arr T' sz n L)) (hC : v.cells.toList = C) (hk : C.length = k) (h1 : C.all (·.oneCell') = true)
    (hfit : p + C.length ≤ L.length) (hL : setL L p C = L') : DOp P pc o F M [i] .junk [(i, .arr T' sz n L')] := by
  intro hp a s hok hops hfp
  have hr := ev_at hp hx (by simp [ho, Op.operands]) hops
  have h2 := (ev_at hp hy (by simp [ho, Op.operands]) hops).val_eq
  have hM' : s.M[i]? = some (.arr T' sz n L) := by rw [hfp i (by simp)]; exact hM
  subst hL
  generalize hv : a.eval x = vx at hr
  cases hr with
  | @aloc _ _ n' c b h =>
    have hk' : s.w.ownsRow 0 T' sz _ n L := hok.blk i _ _ hM' h
    rcases hk'.2 with ⟨e1, e2⟩ | ⟨g, cap, cur, e1, e2, e3, e4, e5, e6, e7⟩
    · cases e1
    · cases e1
      have hle := Nat.mul_le_mul_right sz e4
      have hlL := hk'.1
      have hcell := cellsAt_block e3 0
      have hrun := run_store (P := P) (w := s.w) ho hT hv h2 hC hk (fun j hj => by
          have := hcell (p + j) _ (by simpa using List.getElem?_eq_getElem (by simp; omega : p + j < cur.toList.length))
          rw [Nat.zero_add] at this
          rw [this]; rfl) (fun j hj => by simp [World.frozen?, e3]) (fun u hu => List.all_eq_true.1 h1 u hu)
      refine dg_skip (s' := ⟨s.β.set i (.slice (some ⟨b, 0, none⟩) n c), s.I, s.M.set i (.arr T' sz n (setL L p C)), s.w.setCells b p C⟩) hrun (tr_store hok hM' rfl h rfl p C ?_) rfl
      have hsl := setL_len C cur.toList p
      refine ⟨by rw [setL_len]; exact hlL, .inr ⟨b, c, (setL cur.toList p C).toArray, rfl, e2, setCells_block b C p s.w cur.toList T' (by simpa using e3), e4, e5, by simp [hsl]; simpa using e6, ?_⟩⟩
      have hcurlen : cur.toList.length = c * sz := by simpa using e6
      rw [setL_eq C cur.toList p (by omega), setL_eq C L p hfit]
      have hcut : cur.toList = L ++ cur.toList.drop L.length := by
        have := List.take_append_drop (n * sz) cur.toList
        rw [e7, ← hlL] at this
        exact this.symm
      generalize cur.toList.drop L.length = R at hcut
      rw [hcut]
      have t1 : (L ++ R).take p = L.take p := List.take_append_of_le_length (by omega)
      have t2 : (L ++ R).drop (p + C.length) = L.drop (p + C.length) ++ R := List.drop_append_of_le_length (by omega)
      rw [t1, t2, ← hlL, ← List.append_assoc]
      refine List.take_left' ?_
      simp; omega
end
section
variable {P : Program} {pc : Bool} {o : Oper} {F : Fr} {M : List Blk}
theorem op_lena {T T' : TypeId} {x : Operand} {q : TypeId × Nat × Nat} {i sz n : Nat} {L : List Value} (ho : o.op = .call { callee := .builtin .len, args := #[x], argTypes := #[T] }) (hT : slE P T = some q) (hx : Ev pc F x (.arr i)) (hM : M[i]? = some (.arr T' sz n L)) : DOp P pc o F M [i] (.val (.int .i64 n)) [] := by
  intro hp a s hok hops hfp
  obtain ⟨e1, _⟩ := slE_spec hT
  have hr := ev_at hp hx (by simp [ho, Op.operands, Call.operands]) hops
  generalize hv : a.eval x = vx at hr
  cases hr with
  | arr h =>
    have hM' : s.M[i]? = some (.arr T' sz n L) := by rw [hfp i (by simp)]; exact hM
    have hk : s.w.ownsRow 0 T' sz _ n L := hok.blk i _ _ hM' h
    refine dg_val hok (run_builtin ho (fun cs => rfl) ?_) (.val (.int .i64 n))
    rcases hk.2 with ⟨e2, e3⟩ | ⟨g, cap, cur, e2, _⟩
    · cases e2; simp [Builtin.len_, hv, run_underlying e1, goInt, e3]
    · cases e2; simp [Builtin.len_, hv, run_underlying e1, goInt]
section
variable {T e : TypeId} {sz by' n : Nat} {ps : List (Nat × Operand)} {vs Z : List Value}
end

/-! ### append -/
end
section
variable {P : Program} {fn : Func} {F : Fr} {M : List Blk} {t u v : Tmp} {d d' e f dr : D}
end
section
variable {P : Program} {pc : Bool} {o : Oper} {F : Fr} {M : List Blk}

/-! ### structs built -/
theorem op_neb {T T' : TypeId} {x y : Operand} {p q : Bool} (ho : o.op = .binOp .neq T x y T') (hT : P.underlying T = some .bool) (hx : Ev pc F x (.val (.bool p))) (hy : Ev pc F y (.val (.bool q))) : DOp P pc o F M [] (.val (.bool (p != q))) [] :=
  op_nev ho hx hy (fun w => by unfold eqGuard; rfl) fun w => by
    have h : ∀ d, (Op.equalIn (d + 1) T (.bool p) (.bool q)).run P w = .ok (p == q) w := fun d => by simp [Op.equalIn, run_underlying hT]
    show (do pure (Value.bool (!(← Op.equalIn (9999 + 1) T (.bool p) (.bool q)))) : Sem Value).run P w = _
    rw [Sem.run_bind, h 9999]; rfl
end
section
variable {P : Program} {s0 : St} {n : Cx}
end
section
variable {P : Program} {pc : Bool} {o : Oper} {F : Fr} {M : List Blk}
end
section
variable {P : Program} {pc : Bool} {o : Oper} {F : Fr} {M : List Blk}
theorem op_sldr {α : Type} {en : α → List Value} {r : List α} {T e : TypeId} {sz by' : Nat} {x : Operand} {lo : Option Operand} {l : Int} {i : Nat} (ho : o.op = .slice T x lo none none) (hT : slE P T = some (e, sz, by')) (hx : Ev pc F x (.slf sz r.length (r.flatMap en))) (hlo : Bd pc F lo 0 l)
    (hl : pc = true → l = (i : Int)) (hij : pc = true → i ≤ r.length) (hen : ∀ a, (en a).length = sz) : DOp P pc o F M [] (.slf sz (r.drop i).length ((r.drop i).flatMap en)) [] := fun hp => by
  have h := op_slmd (M := M) (j := r.length) ho hT hx hlo bd_none hl (fun _ => rfl) (fun hp => ⟨hij hp, Nat.le_refl _⟩) hen hp
  rwa [List.take_of_length_le (by simp)] at h
end
open Go.ChangeShapes Go.WideShapes Go.ChangeAt Go.RowKit Go.Joins Go.Deep
set_option maxRecDepth 100000
section
variable {H : Type} {enc : TypeId × Value → H} {w : World} {base b0 : Nat} {r : Reach} {spare : Nat → Bool} {held : Bool} {v : Value} {d : DataW H} {p : List MemPlace}
theorem rep_row {α : Type} {W : World} {a : Option Addr} {n cap sz : Nat} {en : α → List Value} {l : List α} (hx : rowV W a n sz en l) (hc : n ≤ cap) (hm : cap ≤ maxLen) (hnil : a = none → cap = 0) (hen : ∀ a, (en a).length = sz) : Rep (st0 W) (.slf sz l.length (l.flatMap en)) (.slice a n cap) := by
  obtain ⟨rfl, hx⟩ := hx
  refine .slf (flat_len hen l) hc hm hnil ?_
  rcases hx with rfl | ⟨b, off, rfl, hlt, hcell⟩
  · exact .inl rfl
  · refine .inr ⟨b, off, rfl, hlt, fun j u hj => ?_⟩
    show W.cell? ⟨b, off + j, none⟩ = some u
    have hjl : j < l.length * sz := by rw [← flat_len hen l]; exact (List.getElem?_eq_some_iff.1 hj).1
    have hsz : 0 < sz := by
      rcases Nat.eq_zero_or_pos sz with e | e
      · rw [e] at hjl; omega
      · exact e
    have hq : j / sz < l.length := (Nat.div_lt_iff_lt_mul hsz).2 hjl
    have hr := Nat.mod_lt j hsz
    have e : j = j / sz * sz + j % sz := by rw [Nat.mul_comm]; exact (Nat.div_add_mod j sz).symm
    rw [e, flat_cell hen hq hr] at hj
    have := hcell (j / sz) hq (j % sz) hr
    rw [hj] at this
    rw [e, ← Nat.add_assoc]
    exact this
end
section
variable {P : Program} {pc : Bool} {o : Oper} {F : Fr} {M : List Blk} {T : TypeId} {x y : Operand} {n sz : Nat} {k : IntKind} {z : Int} {α : Type} {en : α → List Value} {l : List α} {j : Nat}
/-- an array whose elements are rows -/
def arV (P : Program) (T : TypeId) : Option (Nat × Nat) := match P.underlying T with
  | some (.array n e) => match tyB P e with
    | some (true, sz) => some (n, sz)
    | _ => none
  | _ => none
theorem arV_spec (h : arV P T = some (n, sz)) : ∃ e, P.underlying T = some (.array n e) ∧ tyB P e = some (true, sz) := by
  unfold arV at h
  split at h
  · rename_i m e hu
    split at h
    · rename_i s hs; cases h; exact ⟨e, hu, hs⟩
    · cases h
  · cases h
theorem op_ixv (a0 : α) (ho : o.op = .index T x y) (hT : arV P T = some (n, sz)) (hx : Ev pc F x (.val (.agg (l.flatMap en).toArray))) (hy : Ev pc F y (.val (.int k z))) (hz : pc = true → z = (j : Int)) (hj : pc = true → j < n) (hl : l.length = n) (hen : ∀ a, (en a).length = sz) : DOp P pc o F M [] (.val (.agg (en (l.getD j a0)).toArray)) [] := by
  refine op_val2 hx hy (by simp [ho, Op.operands]) fun hp a w e1 e2 => ?_
  obtain ⟨e, hu, he⟩ := arV_spec hT
  obtain ⟨d, i, h1, h2, h3, h4⟩ := tyB_spec he
  have hz' := hz hp
  have hj' := hj hp
  subst hz'
  unfold execOp
  simp only [ho, e1, e2]
  refine run_v ?_
  have hagg : (isAgg e).run P w = .ok true w := by
    unfold isAgg
    rw [Sem.run_bind, run_underlying h1]
    cases d <;> first | rfl | cases h3
  have hsz : (sizeOf e).run P w = .ok sz w := by simp [sizeOf, typeInfo, h2, h4]
  have hb : (0 : Int) ≤ (j : Int) ∧ (j : Int) < (n : Int) := by omega
  have hpart : ((l.flatMap en).drop (j * sz)).take sz = en (l.getD j a0) := by rw [flat_one hen (by omega), getD_at (by omega)]
  unfold Instr.index
  simp only [Sem.run_bind, asIntOf, Sem.run_pure, Result.andThen_ok, run_underlying hu, hb, and_self, if_true, hsz, part, hagg, Int.toNat_natCast]
  simp only [List.extract_toArray, List.extract_eq_take_drop, Nat.add_sub_cancel_left, hpart]
end
section
variable {P : Program} {s0 : St} {n : Cx}
end
section
variable {α : Type} [DecidableEq α] {P : Program} {K E T : TypeId} {en : α → List Value} {pc : Bool} {o : Oper} {F : Fr} {M : List Blk} {x y z : Operand}
end
/-- a nil slice, as a row without elements -/
theorem rep_nils {s : St} {v : Value} (sz : Nat) (h : Rep s (.val (.slice none 0 0)) v) : Rep s (.slf sz 0 []) v := by
  cases h; exact .slf (by simp) (Nat.le_refl _) (Nat.zero_le _) (fun _ => rfl) (.inl rfl)
theorem evnil {pc : Bool} {F : Fr} {x : Operand} (sz : Nat) (h : Ev pc F x (.val (.slice none 0 0))) : Ev pc F x (.slf sz 0 []) := by
  obtain ⟨d, h1, h2⟩ := h
  exact ⟨d, h1, fun s v hp hr => rep_nils sz (h2 s v hp hr)⟩
section
variable {P : Program} {pc : Bool} {o : Oper} {F : Fr} {M : List Blk}
end
/-- cells that read as data, side by side, at the start -/
def Opens (P : Program) (w : World) {α : Type} (t : TypeId) (mk : α → List D) (ok : α → Prop) : Prop :=
  ∀ (H : Type) (enc : TypeId × Value → H) (base : Nat) (spare : Nat → Bool) (held : Bool) (n : Nat) (cs : List Value) (x : DataW H × List MemPlace), DataW.trod enc P w base spare held n t cs = some x → ∃ a, ok a ∧ Reps (st0 w) (mk a) cs
section
variable {P : Program} {w : World}
theorem reps_app2 {s : St} {d1 d2 : List D} {v1 v2 : List Value} (h1 : Reps s d1 v1) (h2 : Reps s d2 v2) : Reps s (d1 ++ d2) (v1 ++ v2) := by
  refine ⟨by simp [h1.1, h2.1], fun j d v hd hv => ?_⟩
  by_cases hj : j < d1.length
  · rw [List.getElem?_append_left hj] at hd
    rw [List.getElem?_append_left (by rw [h1.1]; exact hj)] at hv
    exact h1.2 j d v hd hv
  · rw [List.getElem?_append_right (by omega)] at hd
    rw [List.getElem?_append_right (by rw [h1.1]; omega), h1.1] at hv
    exact h2.2 _ d v hd hv
/-- a type that holds no address -/
theorem opens_flat {α : Type} {t : TypeId} {ps : List Prim} (f : Nat) (en : α → List Value) (ok : α → Prop) (hP : ∀ cs, fitsP ps cs → ∃ a, ok a ∧ cs = en a) (hf : flatT P f t = some ps) : Opens P w t (fun a => (en a).map .val) ok := by
  intro H enc base spare held n cs x hx
  obtain ⟨a, hok, rfl⟩ := hP cs (flat_trod f _ _ _ _ _ hf hx)
  refine ⟨a, hok, by simp, fun j d v hd hv => ?_⟩
  rw [List.getElem?_map, hv] at hd
  obtain rfl := Option.some.inj hd
  exact .val v
/-- a slice whose elements hold no address -/
theorem opens_row {α : Type} {t e : TypeId} {ps : List Prim} (f : Nat) (en : α → List Value) (ok : α → Prop) (hP : ∀ cs, fitsP ps cs → ∃ a, ok a ∧ cs = en a) (ht : P.underlying t = some (.slice e)) (hf : flatT P f e = some ps) (hc : P.cellsOf e = ps.length) (hpos : 0 < ps.length)
    (hen : ∀ a, (en a).length = ps.length) : Opens P w t (fun l : List α => [.slf ps.length l.length (l.flatMap en)]) (fun l => ∀ a ∈ l, ok a) := by
  intro H enc base spare held n cs x hx
  have hone : ∃ a len cap, cs = [.slice a len cap] := by
    rcases open_slice ht hx with ⟨hcs, _⟩ | ⟨a, len', cap', _, _, _, _, hcs, _⟩
    · exact ⟨_, _, _, hcs⟩
    · exact ⟨_, _, _, hcs⟩
  obtain ⟨a, len, cap, rfl⟩ := hone
  obtain ⟨l, h1, h2, h3, h4, h5⟩ := open_row f en ok hP ht hf hc hpos (d := x.1) (p := x.2) (show DataW.Trod enc P w base spare held t (.slice a len cap) x.1 x.2 from ⟨n, hx⟩)
  exact ⟨l, h2, reps_cons (rep_row h1 h3 h4 h5 hen) reps_nil⟩
end
section
variable {P : Program} {s0 : St} {n : Cx}
end
section
variable {P : Program} {pc : Bool} {o : Oper} {F : Fr} {M : List Blk}
/-- a struct with addresses, whole, into a variable that holds such a one -/
theorem op_stmw {T T' : TypeId} {x y : Operand} {i k : Nat} {rw' : Bool} {ds l : List D} (ho : o.op = .store T x y) (hT : tyB P T = some (rw', k)) (hx : Ev pc F x (.loc i 0)) (hy : Ev pc F y (.agg ds)) (hM : M[i]? = some (.mix T' l)) (hk : ds.length = k) (hfit : ds.length = l.length) (h1 : ds.all D.oc = true) : DOp P pc o F M [i] .junk [(i, .mix T' ds)] := by
  intro hp a s hok hops hfp
  have hr := ev_at hp hx (by simp [ho, Op.operands]) hops
  have hry := ev_at hp hy (by simp [ho, Op.operands]) hops
  have hM' : s.M[i]? = some (.mix T' l) := by rw [hfp i (by simp)]; exact hM
  generalize hv : a.eval x = vx at hr
  generalize hvy : a.eval y = vy at hry
  cases hr with
  | @loc _ _ b h =>
    cases hry with
    | @agg _ vs hvl hd =>
      obtain ⟨b', L, e1, e2, e3, _⟩ := hok.blk i _ _ hM' h
      cases e1
      have hcell := cellsAt_block e2 0
      have hoc : ∀ u ∈ vs, u.oneCell' = true := fun u hu => by
        obtain ⟨j, hj, rfl⟩ := List.getElem_of_mem hu
        have hj2 : j < ds.length := by omega
        exact oc_one (hd j _ _ (List.getElem?_eq_getElem hj2) (List.getElem?_eq_getElem hj)) (List.all_eq_true.1 h1 _ (List.getElem_mem hj2))
      have hrun := run_store (P := P) (w := s.w) (C := vs) ho hT hv hvy rfl (by omega) (fun j hj => by
          have hp' : j < L.length := by omega
          have := hcell j L[j] (by simp [hp'])
          rw [Nat.zero_add] at this
          rw [Nat.zero_add, this]; rfl) (fun j hj => by simp [World.frozen?, e2]) hoc
      have hβ : s.β.set i (.pointer (some ⟨b, 0, none⟩)) = s.β := by
        apply List.ext_getElem?
        intro k
        by_cases e : i = k
        · subst e; rw [List.getElem?_set_self (List.getElem?_eq_some_iff.1 h).1, h]
        · rw [List.getElem?_set_ne e]
      refine dg_skip (s' := ⟨s.β.set i (.pointer (some ⟨b, 0, none⟩)), s.I, s.M.set i (.mix T' ds), s.w.setCells b 0 vs⟩) hrun (tr_store hok hM' rfl h rfl 0 _ ?_) rfl
      have hall : setL L 0 vs = vs := setL_all (by omega)
      have hblk := setCells_block b vs 0 s.w L T' e2
      rw [hall] at hblk
      refine ⟨b, vs, rfl, hblk, hvl, fun j e v hj hv' => ?_⟩
      refine Rep.mono' (s := s) (s' := ⟨s.β.set i (.pointer (some ⟨b, 0, none⟩)), s.I, s.M.set i (.mix T' ds), s.w.setCells b 0 vs⟩) (fun k x hk _ => by show (s.β.set i _)[k]? = _; rw [hβ]; exact hk) (fun _ h => h) (fun b' hI => setCells_other b _ 0 s.w b' fun e => ?_) (hd j e v hj hv')
      subst e
      exact (hok.lt b' (live_of hM' rfl h rfl)).2 hI
end
/-- fields that read as data, from cell o on -/
def OpensF (P : Program) (w : World) {α : Type} (fs : List Field) (o tot : Nat) (mk : α → List D) (ok : α → Prop) : Prop :=
  ∀ (H : Type) (enc : TypeId × Value → H) (base : Nat) (spare : Nat → Bool) (held : Bool) (n : Nat) (cs : List Value), cs.length = tot → (∀ f, f ∈ fs → ∃ x, DataW.trod enc P w base spare held n f.type ((cs.drop f.offset).take (P.cellsOf f.type)) = some x) → ∃ a, ok a ∧ Reps (st0 w) (mk a) (cs.drop o)
section
variable {P : Program} {w : World}
theorem opensF_nil {tot : Nat} : OpensF P w ([] : List Field) tot tot (fun _ : Unit => []) (fun _ => True) := fun H enc base spare held n cs hl _ =>
  ⟨(), trivial, by rw [List.drop_eq_nil_of_le (by omega)]; exact ⟨rfl, fun j d v h => by simp at h⟩⟩
theorem opensF_cons {α β : Type} {f : Field} {fs : List Field} {o k tot : Nat} {mk : α → List D} {mk' : β → List D} {ok : α → Prop} {ok' : β → Prop} (ho : f.offset = o) (hk : P.cellsOf f.type = k) (h : Opens P w f.type mk ok) (h' : OpensF P w fs (o + k) tot mk' ok') :
    OpensF P w (f :: fs) o tot (fun a : α × β => mk a.1 ++ mk' a.2) (fun a => ok a.1 ∧ ok' a.2) := by
  intro H enc base spare held n cs hl hall
  obtain ⟨x, hx⟩ := hall f (List.mem_cons_self ..)
  rw [ho, hk] at hx
  obtain ⟨a, h1, h2⟩ := h H enc base spare held n _ x hx
  obtain ⟨b, h3, h4⟩ := h' H enc base spare held n cs hl fun g hg => hall g (List.mem_cons_of_mem _ hg)
  refine ⟨(a, b), ⟨h1, h3⟩, ?_⟩
  have e : cs.drop o = (cs.drop o).take k ++ cs.drop (o + k) := by rw [← List.drop_drop, List.take_append_drop]
  rw [e]
  exact reps_app2 h2 h4
theorem opens_struct {α : Type} {t : TypeId} {fs : Array Field} {tot : Nat} {mk : α → List D} {ok : α → Prop} (hu : P.underlying t = some (.struct fs)) (ht : P.cellsOf t = tot) (h : OpensF P w fs.toList 0 tot mk ok) : Opens P w t mk ok := by
  intro H enc base spare held n cs x hx
  obtain ⟨xs, m, _, _, hl, hlen, hf⟩ := DataW.trod_struct hu hx
  obtain ⟨a, h1, h2⟩ := h H enc base spare held m cs (by rw [hl, ht]) fun f hfm => by
    obtain ⟨i, hi, rfl⟩ := List.getElem_of_mem hfm
    have hi' : i < fs.size := by simpa using hi
    have h3 := hf i fs[i] (Array.getElem?_eq_getElem hi')
    rw [List.getElem?_eq_getElem (by omega)] at h3
    exact ⟨_, by simpa using h3⟩
  exact ⟨a, h1, by simpa using h2⟩
theorem opens_map {α β : Type} {t : TypeId} {mk : α → List D} {ok : α → Prop} {mk' : β → List D} {ok' : β → Prop} (g : α → β) (h : Opens P w t mk ok) (hm : ∀ a, mk a = mk' (g a)) (ho : ∀ a, ok a → ok' (g a)) : Opens P w t mk' ok' := by
  intro H enc base spare held n cs x hx
  obtain ⟨a, h1, h2⟩ := h H enc base spare held n cs x hx
  exact ⟨g a, ho a h1, by rw [← hm]; exact h2⟩
end
set_option maxRecDepth 100000
/-- a struct among the arguments that opens -/
theorem open_agg {H : Type} {enc : TypeId × Value → H} {w : World} {base : Nat} {spare : Nat → Bool} {held : Bool} {α : Type} {t : TypeId} {fs : Array Field} {mk : α → List D} {ok : α → Prop} {v : Value} {d : DataW H} {p : List MemPlace} {r : Reach} {b0 : Nat} (hu : Try.prog.underlying t = some (.struct fs)) (ho : Opens Try.prog w t mk ok) (hv : Value.okWide Try.prog w r b0 t v) (h : DataW.Trod enc Try.prog w base spare held t v d p) :
    ∃ a, ok a ∧ Rep (st0 w) (.agg (mk a)) v := by
  obtain ⟨cs, rfl, hsz⟩ := okWide_struct hu hv
  obtain ⟨fuel, hfu⟩ := h
  obtain ⟨a, hok, hr⟩ := ho H enc base spare held _ _ _ hfu
  have h5 := Rep.agg (s := st0 w) (l := mk a) (vs := cs.toList) hr.1 hr.2
  rw [Array.toArray_toList] at h5
  exact ⟨a, hok, h5⟩
theorem Wk.slf0 (sz : Nat) : Wk (.val (.slice none 0 0)) (.slf sz 0 []) := fun s v hr => by
  cases hr with
  | val => exact .slf (by simp) (Nat.le_refl _) (Nat.zero_le _) (fun _ => rfl) (.inl rfl)
theorem Wk.vagg (l : List Value) : Wk (.val (.agg l.toArray)) (.agg (l.map D.val)) := fun s v hr => by
  cases hr with
  | val =>
    refine .agg (by simp) fun j d v h1 h2 => ?_
    rw [List.getElem?_map, h2] at h1
    cases h1
    exact .val v
/-- .. of an operand -/
theorem evwk {pc : Bool} {F : Fr} {x : Operand} {d d' : D} (h : Ev pc F x d) (hw : Wk d d') : Ev pc F x d' := by
  obtain ⟨d0, e1, e2⟩ := h
  exact ⟨d0, e1, fun s v hp hr => hw _ _ (e2 s v hp hr)⟩
section
variable {P : Program} {s0 : St} {n : Cx}
end
section
variable {P : Program} {pc : Bool} {o : Oper} {F : Fr} {M : List Blk} {T : TypeId} {x : Operand}
end
section
variable {P : Program} {pc : Bool} {o : Oper} {F : Fr} {M : List Blk}
/-- a struct with rows, into a part of a variable -/
theorem op_stmp {T T' : TypeId} {x y : Operand} {i p k : Nat} {rw' : Bool} {ds l R : List D} (ho : o.op = .store T x y) (hT : tyB P T = some (rw', k)) (hx : Ev pc F x (.loc i p)) (hy : Ev pc F y (.agg ds)) (hM : M[i]? = some (.mix T' l)) (hk : ds.length = k) (hfit : Nat.ble (p + k) l.length = true) (h1 : ds.all D.oc = true) (hR : l.take p ++ ds ++ l.drop (p + k) = R) : DOp P pc o F M [i] .junk [(i, .mix T' R)] := by
  have hfit' := Nat.le_of_ble_eq_true hfit
  subst hR
  intro hp a s hok hops hfp
  have hr := ev_at hp hx (by simp [ho, Op.operands]) hops
  have hry := ev_at hp hy (by simp [ho, Op.operands]) hops
  have hM' : s.M[i]? = some (.mix T' l) := by rw [hfp i (by simp)]; exact hM
  generalize hv : a.eval x = vx at hr
  generalize hvy : a.eval y = vy at hry
  cases hr with
  | @loc _ _ b h =>
    cases hry with
    | @agg _ vs hvl hd =>
      obtain ⟨b', L, e1, e2, e3, e4⟩ := hok.blk i _ _ hM' h
      cases e1
      have hcell := cellsAt_block e2 0
      have hoc : ∀ u ∈ vs, u.oneCell' = true := fun u hu => by
        obtain ⟨j, hj, rfl⟩ := List.getElem_of_mem hu
        have hj2 : j < ds.length := by omega
        exact oc_one (hd j _ _ (List.getElem?_eq_getElem hj2) (List.getElem?_eq_getElem hj)) (List.all_eq_true.1 h1 _ (List.getElem_mem hj2))
      have hrun := run_store (P := P) (w := s.w) (C := vs) ho hT hv hvy rfl (by omega) (fun j hj => by
          have hp' : p + j < L.length := by omega
          have := hcell (p + j) L[p + j] (by simp [hp'])
          rw [Nat.zero_add] at this
          rw [this]; rfl) (fun j hj => by simp [World.frozen?, e2]) hoc
      have hβ : s.β.set i (.pointer (some ⟨b, 0, none⟩)) = s.β := by
        apply List.ext_getElem?
        intro k
        by_cases e : i = k
        · subst e; rw [List.getElem?_set_self (List.getElem?_eq_some_iff.1 h).1, h]
        · rw [List.getElem?_set_ne e]
      refine dg_skip (s' := ⟨s.β.set i (.pointer (some ⟨b, 0, none⟩)), s.I, s.M.set i (.mix T' (l.take p ++ ds ++ l.drop (p + k))), s.w.setCells b p vs⟩) hrun (tr_store hok hM' rfl h rfl p _ ?_) rfl
      have hlen : (l.take p ++ ds ++ l.drop (p + k)).length = l.length := by
        simp only [List.length_append, List.length_take, List.length_drop]
        omega
      refine ⟨b, setL L p vs, rfl, setCells_block b vs p s.w L T' e2, by rw [setL_len, hlen, e3], fun j e v hj hv' => ?_⟩
      have lift : ∀ {e : D} {v : Value}, Rep s e v → Rep ⟨s.β.set i (.pointer (some ⟨b, 0, none⟩)), s.I, s.M.set i (.mix T' (l.take p ++ ds ++ l.drop (p + k))), s.w.setCells b p vs⟩ e v := by
        intro e v hr
        refine Rep.mono' (s := s) (s' := ⟨s.β.set i (.pointer (some ⟨b, 0, none⟩)), s.I, s.M.set i (.mix T' (l.take p ++ ds ++ l.drop (p + k))), s.w.setCells b p vs⟩) (fun k x hk _ => by show (s.β.set i _)[k]? = _; rw [hβ]; exact hk) (fun _ h => h) (fun b' hI => setCells_other b _ p s.w b' fun e => ?_) hr
        subst e
        exact (hok.lt b' (live_of hM' rfl h rfl)).2 hI
      rw [setL_eq vs L p (by omega)] at hv'
      by_cases h1 : j < p
      · rw [List.append_assoc, List.getElem?_append_left (by simp; omega), List.getElem?_take_of_lt h1] at hj hv'
        exact lift (e4 j e v hj hv')
      · rw [List.append_assoc, List.getElem?_append_right (by simp; omega)] at hj hv'
        rw [List.length_take, Nat.min_eq_left (by omega)] at hj hv'
        by_cases h2 : j - p < k
        · rw [List.getElem?_append_left (by omega)] at hj hv'
          exact lift (hd _ e v hj hv')
        · rw [List.getElem?_append_right (by omega), List.getElem?_drop] at hj hv'
          rw [hvl, hk] at hv'
          rw [hk, show p + k + (j - p - k) = j by omega] at hj
          rw [show p + k + (j - p - k) = j by omega] at hv'
          exact lift (e4 j e v hj hv')
end
set_option maxRecDepth 4000
set_option maxRecDepth 4000 in
set_option maxHeartbeats 1000000 in
theorem cloneT (l : List TL) (h : l.length ≤ 5000) : DFun Try.prog 9 [.slf 256 l.length (l.flatMap tc)] [] (.arr 0) [.arr 29 256 l.length (l.flatMap tc)] := by
  refine dcalls_go (N := 8) 0 (by kernel_rfl) Try.func9 rfl rfl rfl (by simp only [fr0, Nat.zero_add, Nat.reduceAdd]; exact rfl) rfl fun s0 hs0 => ?_
  refine dwp_len (t := 0) rfl fun hl0 hL0 => ?_
  refine zaf ?_
  refine zad ?_
  refine zab rfl rfl rfl (zac (.inr rfl) (ev1 rfl)) ?_
  refine zae ?_
  refine zaf ?_
  refine zaf ?_
  refine zad ?_
  refine zab rfl rfl rfl (zac (.inl rfl) (ev1 rfl)) ?_
  refine walk_nil? rfl rfl rfl rfl sl22 (ev1 rfl) fun nb4 hnb4 => ?_
  refine zae ?_
  refine dwp_cond rfl (fun c1 => ?_) (fun c1 => ?_)
  · try simp only [yg, ya, beq_iff_eq, bne_iff_ne, yb, yc, yf, ye, yh, yi, yd, ne_eq, yj, Int.not_lt, Int.not_le] at c1
    refine zaf ?_
    refine zad ?_
    refine zab rfl rfl rfl (zac (.inr rfl) (ev1 rfl)) ?_
    refine zae ?_
    refine dwp_adopt 2 29 256 rfl rfl rfl ?_
    refine dwp_ret ?_
    refine kend [0] (rs1 rfl (rv_t rfl)) rfl rfl ?_ ⟨?_, trivial⟩
    rfl
    exact (by obtain ⟨h1, h2⟩ := hnb4 c1; simp_all [MFits, vwB])
  · try simp only [yg, ya, beq_iff_eq, bne_iff_ne, yb, yc, yf, ye, yh, yi, yd, ne_eq, yj, Int.not_lt, Int.not_le] at c1
    refine dwp_skip ?_
    refine zaf ?_
    refine zah 2 (by simp only [holes, List.cons_append, List.nil_append]; exact rfl) ?_
    refine zad ?_
    refine walk_w rfl rfl rfl (op_bsa (ps := []) 0 rfl sl22 zr29 rfl vn rfl (by decide) (by decide) rfl) (by simp only [upd, za, zaa]; exact rfl) ?_
    refine zab rfl rfl rfl (zac (.inl rfl) (ev1 rfl)) ?_
    refine walk_w rfl rfl rfl (op_app (j := 1) rfl sl22 zr29 rfl (ev1 rfl) (ev1 rfl) src_slf rfl rfl (fun _ => flat_oc (fun t => flat_oc (fun _ => rfl) t.l) l) (fun _ => ⟨by omega, by omega⟩)) (by simp only [upd, za, zaa]; exact rfl) ?_
    refine zab rfl rfl rfl (zac (.inr rfl) (ev1 rfl)) ?_
    refine zae ?_
    refine dwp_ret ?_
    refine kend [1] (rs1 rfl (rv_t rfl)) rfl rfl ?_ ⟨?_, trivial⟩
    rfl
    simp [vwB]
theorem cloneT_f (l : List TL) (h : l.length ≤ 5000) : DFun Try.prog 9 [.slf 256 l.length (l.flatMap tc)] [] (.slf 256 l.length (l.flatMap tc)) [] := freeze (cloneT l h) rfl
set_option maxRecDepth 4000 in
set_option maxHeartbeats 1000000 in
theorem rsizes_d (w h : Int) : DFun Try.prog 38 [.val (.int .i64 w), .val (.int .i64 h)] [] (.val (.bool (mayS w h))) [] := by
  refine dcalls_go (N := 19) 0 (by kernel_rfl) Try.func38 rfl rfl rfl (by simp only [fr0, Nat.zero_add, Nat.reduceAdd]; exact rfl) rfl fun s0 hs0 => ?_
  refine zaf ?_
  refine zad ?_
  refine zab rfl rfl rfl (zac (.inr rfl) (ev1 rfl)) ?_
  refine zae ?_
  refine zaf ?_
  refine zad ?_
  refine zab rfl rfl rfl (zac (.inl rfl) (ev1 rfl)) ?_
  refine zab rfl rfl rfl (op_geq rfl (ev1 rfl) (ev1 rfl)) ?_
  refine zab rfl rfl rfl (zac (.inl rfl) (ev1 rfl)) ?_
  refine zai (gd_t rfl rfl rfl) rfl rfl rfl (zac (.inl rfl) (ev1 rfl)) ?_
  refine zai (gd_t rfl rfl rfl) rfl rfl rfl (op_leq rfl (ev2 rfl) (ev1 rfl)) ?_
  refine zab rfl rfl rfl (op_and rfl (ev1 rfl) (ev3 rfl id)) ?_
  refine zab rfl rfl rfl (zac (.inl rfl) (ev1 rfl)) ?_
  refine zai (gd_t rfl rfl rfl) rfl rfl rfl (zac (.inl rfl) (ev1 rfl)) ?_
  refine zai (gd_t rfl rfl rfl) rfl rfl rfl (op_geq rfl (ev2 rfl) (ev1 rfl)) ?_
  refine zab rfl rfl rfl (op_and rfl (ev1 rfl) (ev3 rfl id)) ?_
  refine zab rfl rfl rfl (zac (.inl rfl) (ev1 rfl)) ?_
  refine zai (gd_t rfl rfl rfl) rfl rfl rfl (zac (.inl rfl) (ev1 rfl)) ?_
  refine zai (gd_t rfl rfl rfl) rfl rfl rfl (op_leq rfl (ev2 rfl) (ev1 rfl)) ?_
  refine zab rfl rfl rfl (op_and rfl (ev1 rfl) (ev3 rfl id)) ?_
  refine zab rfl rfl rfl (zac (.inr rfl) (ev1 rfl)) ?_
  refine zae ?_
  refine dwp_ret ?_
  refine kend0 (rs1 rfl (rv_t rfl)) rfl ?_
  unfold mayS
  simp [Bool.and_assoc]
set_option maxRecDepth 4000 in
set_option maxHeartbeats 1000000 in
theorem right_d (w h : Int) (ts : List TL) : DFun Try.prog 18 [shD w h ts] [] (.val (.bool (rightB w h ts))) [] := by
  refine dcalls_go (N := 19) 0 (by kernel_rfl) Try.func18 rfl rfl rfl (by simp only [fr0, Nat.zero_add, Nat.reduceAdd]; exact rfl) rfl fun s0 hs0 => ?_
  refine zaf ?_
  refine zah 1 (by simp only [holes, List.cons_append, List.nil_append]; exact rfl) ?_
  refine zad ?_
  refine walk_w rfl rfl rfl (op_boxam 0 rfl (ev1 rfl) rfl) (by simp only [upd, za, zaa]; exact rfl) ?_
  refine zab rfl rfl rfl (zac (.inr rfl) (ev1 rfl)) ?_
  refine zae ?_
  refine zaf ?_
  refine zad ?_
  refine zab rfl rfl rfl (op_fa rfl fo41_0 (ev1 rfl)) ?_
  refine zab rfl rfl rfl (op_ldm rfl tb3 (ev1 rfl) rfl rfl) ?_
  refine zab rfl rfl rfl (op_fa rfl fo41_1 (ev1 rfl)) ?_
  refine zab rfl rfl rfl (op_ldm rfl tb3 (ev1 rfl) rfl rfl) ?_
  refine zab rfl rfl rfl (zaj [] [] [] rfl (ev1 rfl) (ec (ev1 rfl) (ec (ev1 rfl) en)) rfl rfl (rsizes_d _ _) rfl rfl rfl rfl rfl rfl) ?_
  refine zab rfl rfl rfl (zac (.inl rfl) (ev1 rfl)) ?_
  refine zai (gd_t rfl rfl rfl) rfl rfl rfl (op_fa rfl fo41_2 (ev1 rfl)) ?_
  refine zai (gd_t rfl rfl rfl) rfl rfl rfl (op_ldm rfl tb22 (ev2 rfl) rfl rfl) ?_
  refine zai (gd_t rfl rfl rfl) rfl rfl rfl (op_len rfl sl22 (ev2 rfl)) ?_
  refine zai (gd_t rfl rfl rfl) rfl rfl rfl (op_fa rfl fo41_0 (ev1 rfl)) ?_
  refine zai (gd_t rfl rfl rfl) rfl rfl rfl (op_ldm rfl tb3 (ev2 rfl) rfl rfl) ?_
  refine zai (gd_t rfl rfl rfl) rfl rfl rfl (op_fa rfl fo41_1 (ev1 rfl)) ?_
  refine zai (gd_t rfl rfl rfl) rfl rfl rfl (op_ldm rfl tb3 (ev2 rfl) rfl rfl) ?_
  refine zai (gd_t rfl rfl rfl) rfl rfl rfl (op_mul rfl (ev2 rfl) (ev2 rfl)) ?_
  refine zai (gd_t rfl rfl rfl) rfl rfl rfl (op_eql rfl (ev2 rfl) (ev2 rfl)) ?_
  refine zab rfl rfl rfl (op_and rfl (ev1 rfl) (ev3 rfl id)) ?_
  refine zab rfl rfl rfl (zac (.inr rfl) (ev1 rfl)) ?_
  refine zae ?_
  refine dwp_ret ?_
  refine kend0 (rs1 rfl (rv_t rfl)) rfl ?_
  rw [D.val.injEq, Value.bool.injEq]
  cases hm : mayS w h with
  | false => unfold rightB; rw [hm]; rfl
  | true =>
    have hb := mul_in hm
    rw [IntWalk.i64_in _ (by omega)]
    unfold rightB
    rw [hm, Bool.eq_iff_iff]
    simp
set_option maxRecDepth 4000 in
set_option maxHeartbeats 1000000 in
theorem same_d (w h w2 h2 : Int) (ts us : List TL) (hn : ts.length ≤ 5000) : DFun Try.prog 25 [shD w h ts, shD w2 h2 us] [] (.val (.bool (decide (w = w2 ∧ h = h2 ∧ ts = us)))) [] := by
  refine dcalls_go (N := 44) 0 (by kernel_rfl) Try.func25 rfl rfl rfl (by simp only [fr0, Nat.zero_add, Nat.reduceAdd]; exact rfl) rfl fun s0 hs0 => ?_
  refine zaf ?_
  refine zah 2 (by simp only [holes, List.cons_append, List.nil_append]; exact rfl) ?_
  refine zad ?_
  refine walk_w rfl rfl rfl (op_boxam 0 rfl (ev1 rfl) rfl) (by simp only [upd, za, zaa]; exact rfl) ?_
  refine walk_w rfl rfl rfl (op_boxam 1 rfl (ev1 rfl) rfl) (by simp only [upd, za, zaa]; exact rfl) ?_
  refine zab rfl rfl rfl (zac (.inr rfl) (ev1 rfl)) ?_
  refine zae ?_
  refine zaf ?_
  refine zaf ?_
  refine zad ?_
  refine zab rfl rfl rfl (op_fa rfl fo41_0 (ev1 rfl)) ?_
  refine zab rfl rfl rfl (op_ldm rfl tb3 (ev1 rfl) rfl rfl) ?_
  refine zab rfl rfl rfl (op_fa rfl fo41_0 (ev1 rfl)) ?_
  refine zab rfl rfl rfl (op_ldm rfl tb3 (ev1 rfl) rfl rfl) ?_
  refine zab rfl rfl rfl (op_neq rfl (ev1 rfl) (ev1 rfl)) ?_
  refine zab rfl rfl rfl (zac (.inl rfl) (ev1 rfl)) ?_
  refine zai (gd_f rfl rfl rfl) rfl rfl rfl (op_fa rfl fo41_1 (ev1 rfl)) ?_
  refine zai (gd_f rfl rfl rfl) rfl rfl rfl (op_ldm rfl tb3 (ev2 rfl) rfl rfl) ?_
  refine zai (gd_f rfl rfl rfl) rfl rfl rfl (op_fa rfl fo41_1 (ev1 rfl)) ?_
  refine zai (gd_f rfl rfl rfl) rfl rfl rfl (op_ldm rfl tb3 (ev2 rfl) rfl rfl) ?_
  refine zai (gd_f rfl rfl rfl) rfl rfl rfl (op_neq rfl (ev2 rfl) (ev2 rfl)) ?_
  refine zab rfl rfl rfl (op_or rfl (ev1 rfl) (ev3 rfl id)) ?_
  refine zab rfl rfl rfl (zac (.inl rfl) (ev1 rfl)) ?_
  refine zai (gd_f rfl rfl rfl) rfl rfl rfl (op_fa rfl fo41_2 (ev1 rfl)) ?_
  refine zai (gd_f rfl rfl rfl) rfl rfl rfl (op_ldm rfl tb22 (ev2 rfl) rfl rfl) ?_
  refine zai (gd_f rfl rfl rfl) rfl rfl rfl (op_len rfl sl22 (ev2 rfl)) ?_
  refine zai (gd_f rfl rfl rfl) rfl rfl rfl (op_fa rfl fo41_2 (ev1 rfl)) ?_
  refine zai (gd_f rfl rfl rfl) rfl rfl rfl (op_ldm rfl tb22 (ev2 rfl) rfl rfl) ?_
  refine zai (gd_f rfl rfl rfl) rfl rfl rfl (op_len rfl sl22 (ev2 rfl)) ?_
  refine zai (gd_f rfl rfl rfl) rfl rfl rfl (op_neq rfl (ev2 rfl) (ev2 rfl)) ?_
  refine zab rfl rfl rfl (op_or rfl (ev1 rfl) (ev3 rfl id)) ?_
  refine zae ?_
  refine dwp_cond rfl (fun c1 => ?_) (fun c1 => ?_)
  · have hne : ¬ (w = w2 ∧ h = h2 ∧ ts = us) := by
      rintro ⟨rfl, rfl, rfl⟩
      simp at c1
    refine zaf ?_
    refine zad ?_
    refine zab rfl rfl rfl (zac (.inr rfl) (ev1 rfl)) ?_
    refine zae ?_
    refine dwp_ret ?_
    refine kend0 (rs1 rfl (rv_t rfl)) rfl ?_
    rw [decide_eq_false hne]
  · obtain ⟨rfl, rfl, hlen⟩ : w = w2 ∧ h = h2 ∧ ts.length = us.length := by
      simp at c1
      omega
    refine dwp_skip ?_
    refine zaf ?_
    refine zaf ?_
    refine zad ?_
    refine zab rfl rfl rfl (op_fa rfl fo41_2 (ev1 rfl)) ?_
    refine zab rfl rfl rfl (op_ldm rfl tb22 (ev1 rfl) rfl rfl) ?_
    refine zab rfl rfl rfl (op_len rfl sl22 (ev1 rfl)) ?_
    refine zab rfl rfl rfl (zac (.inl rfl) (ev1 rfl)) ?_
    refine zae ?_
    refine dwp_block ?_
    refine dwp_loopS ⟨hs0, rfl⟩ (α := Nat) (fun k => [(31, .val (.int .i64 (k : Int)))]) [(3, _), (29, _), (30, _)] (fun k => []) [_, _] (fun k => k ≤ ts.length ∧ ts.take k = us.take k) (fun k => ts.length - k) 0 [0, 1] (by simp) rfl ⟨rfl, rfl, rfl, trivial⟩ ⟨rfl, trivial⟩ ⟨rfl, rfl, trivial⟩ ?_
    intro k hx
    simp only [upd, za, zaa, List.cons_append, List.nil_append]
    obtain ⟨hk, he⟩ := hx
    refine zaf ?_
    refine zad ?_
    refine zab rfl rfl rfl (op_lss rfl (ev1 rfl) (ev1 rfl)) ?_
    refine zae ?_
    refine zaf ?_
    refine dwp_cond rfl (fun c2 => ?_) (fun c2 => ?_)
    · try simp only [yg, ya, beq_iff_eq, bne_iff_ne, yb, yc, yf, ye, yh, yi, yd, ne_eq, yj, Int.not_lt, Int.not_le] at c2
      refine dwp_skip ?_
      refine zaf ?_
      refine dwp_block ?_
      refine zaf ?_
      refine zah 1 (by simp only [holes, List.cons_append, List.nil_append]; exact rfl) ?_
      refine zad ?_
      refine zab rfl rfl rfl (zac (.inl rfl) (ev1 rfl)) ?_
      refine zab rfl rfl rfl (op_ixsr (j := k) rfl sl22 (ev1 rfl) (ev1 rfl) tc_len (by decide) (by omega) (by omega)) ?_
      refine zab rfl rfl rfl (op_ldwd rfl tb29 (ev1 rfl) (tc_len _)) ?_
      refine walk_w rfl rfl rfl (op_alloc 2 rfl zr29 rfl) (by simp only [upd, za, zaa]; exact rfl) ?_
      refine zab rfl rfl rfl (zac (.inr rfl) (ev1 rfl)) ?_
      refine walk_s rfl rfl (op_stwa rfl tb29 (ev1 rfl) (ev1 rfl) rfl (tc_len _) (tc_oc _) ((tc_len _).trans (tc_len _).symm)) (by simp only [upd, za, zaa]; exact rfl) ?_
      refine zae ?_
      refine zaf ?_
      refine dwp_draw [([2], []), ([], []), ([1], []), ([], []), ([], []), ([], []), ([], [])] mixed (by kernel_rfl) ?_
      refine zag rfl rfl (op_ldw rfl tb29 (ev1 rfl) rfl (tc_len _)) ?_
      refine zag rfl rfl (op_fa rfl fo41_2 (ev1 rfl)) ?_
      refine zag rfl rfl (op_ldm rfl tb22 (ev1 rfl) rfl rfl) ?_
      refine zag rfl rfl (zac (.inl rfl) (ev1 rfl)) ?_
      refine zag rfl rfl (op_ixsr (j := k) rfl sl22 (ev1 rfl) (ev1 rfl) tc_len (by decide) (by omega) (by omega)) ?_
      refine zag rfl rfl (op_ldwd rfl tb29 (ev1 rfl) (tc_len _)) ?_
      refine zag rfl rfl (op_ner eq29 rfl gd29 tb29 (ev1 rfl) (ev1 rfl)) ?_
      refine lex_nil ?_
      refine dwp_cond rfl (fun c2 => ?_) (fun c2 => ?_)
      · have c3 : ts[k] ≠ us[k] := by simpa using c2
        refine zaf ?_
        refine zad ?_
        refine zab rfl rfl rfl (zac (.inr rfl) (ev1 rfl)) ?_
        refine zae ?_
        refine dwp_ret ?_
        refine kend0 (rs1 rfl (rv_t rfl)) rfl ?_
        have hne : ¬ (w = w ∧ h = h ∧ ts = us) := by
          rintro ⟨_, _, rfl⟩
          exact c3 rfl
        have hne : ts ≠ us := fun e => hne ⟨rfl, rfl, e⟩
        simp [hne]
      · have c3 : ts[k] = us[k] := by simpa using c2
        refine dwp_skip ?_
        refine zad ?_
        refine zab rfl rfl rfl (op_add' rfl (ev1 rfl) (ev1 rfl) (fun _ => IntWalk.i64_in _ (by omega))) ?_
        refine zab rfl rfl rfl (zac (.inl rfl) (ev1 rfl)) ?_
        refine zae ?_
        refine ⟨k + 1, [0, 1], ⟨by omega, by rw [List.take_succ_eq_append_getElem (by omega), List.take_succ_eq_append_getElem (by omega), he, c3]⟩, by simp only []; omega, rfl, ⟨rfl, rfl, rfl, rfl, trivial⟩, ⟨rfl, rfl, trivial⟩⟩
    · try simp only [yg, ya, beq_iff_eq, bne_iff_ne, yb, yc, yf, ye, yh, yi, yd, ne_eq, yj, Int.not_lt, Int.not_le] at c2
      refine dwp_exit ?_
      refine zaf ?_
      refine zad ?_
      refine zab rfl rfl rfl (zac (.inr rfl) (ev1 rfl)) ?_
      refine zae ?_
      refine dwp_ret ?_
      refine kend0 (rs1 rfl (rv_t rfl)) rfl ?_
      have e : ts = us := by
        have h := he
        rw [List.take_of_length_le (by omega), List.take_of_length_le (by omega)] at h
        exact h
      simp [e]
set_option maxRecDepth 4000
set_option maxRecDepth 4000 in
set_option maxHeartbeats 1000000 in
theorem cnew_0 (w h : Int) (hm : mayS w h = false) : DFun Try.prog 60 [.val (.int .i64 w), .val (.int .i64 h)] [] (.tup [.val (.pointer none), .val (.int .i64 2)]) [] := by
  refine dcalls_go (N := 36) 0 (by kernel_rfl) Try.func60 rfl rfl rfl (by simp only [fr0, Nat.zero_add, Nat.reduceAdd]; exact rfl) rfl fun s0 hs0 => ?_
  refine zaf ?_
  refine zad ?_
  refine zab rfl rfl rfl (zac (.inr rfl) (ev1 rfl)) ?_
  refine zab rfl rfl rfl (zac (.inr rfl) (ev1 rfl)) ?_
  refine zae ?_
  refine zaf ?_
  refine zah 1 (by simp only [holes, List.cons_append, List.nil_append]; exact rfl) ?_
  refine zad ?_
  refine zab rfl rfl rfl (zac (.inl rfl) (ev1 rfl)) ?_
  refine zab rfl rfl rfl (zac (.inl rfl) (ev1 rfl)) ?_
  refine zab rfl rfl rfl (op_build (ps := [(0, .tmp 9), (1, .tmp 10)]) rfl fl96 zr96 (vc (ev1 rfl) (vc (ev1 rfl) vn)) rfl rfl) ?_
  refine walk_w rfl rfl rfl (op_alloc 0 rfl zr96 rfl) (by simp only [upd, za, zaa]; exact rfl) ?_
  refine walk_s rfl rfl (op_stwa rfl tb96 (ev1 rfl) (ev1 rfl) rfl rfl rfl rfl) (by simp only [upd, za, zaa]; exact rfl) ?_
  refine zae ?_
  refine zaf ?_
  refine zaf ?_
  refine zad ?_
  refine zab rfl rfl rfl (op_ldw rfl tb96 (ev1 rfl) rfl rfl) ?_
  refine zab rfl rfl rfl (zaj [] [] [] rfl (ev1 rfl) (ec (ev1 rfl) en) rfl rfl (smay_d _ _) rfl rfl rfl rfl rfl rfl) ?_
  refine zab rfl rfl rfl (op_not rfl (ev1 rfl)) ?_
  refine zae ?_
  refine dwp_if_t rfl (by rw [hm]; rfl) ?_
  refine zaf ?_
  refine zad ?_
  refine zab rfl rfl rfl (zac (.inr rfl) (ev1 rfl)) ?_
  refine zab rfl rfl rfl (zac (.inr rfl) (ev1 rfl)) ?_
  refine zae ?_
  refine dwp_ret ?_
  refine kend0 (rs2 rfl (rv_t rfl) (rv_t rfl)) rfl ?_
  rfl
end Go.Proofs.Ytcbfnbfhlofkiaa
namespace Go.Proofs.Ytcbfnbfhlofkiaa
set_option maxRecDepth 4000
set_option linter.unusedVariables false
set_option linter.unusedSimpArgs false
open Go.RowKit
attribute [local irreducible] runG bytesG posG tileB
def rnG (t : TL) (k : Nat) : Nat × C4 := (runG t.l).getD k (1, zC4)
theorem rnG_eq {t : TL} {k : Nat} (hk : k < (runG t.l).length) : rnG t k = (runG t.l)[k] := by unfold rnG; rw [List.getD_eq_getElem?_getD, List.getElem?_eq_getElem hk]; rfl
end Go.Proofs.Ytcbfnbfhlofkiaa
namespace Go.Proofs.Ytcbfnbfhlofkiaa
set_option maxRecDepth 4000
set_option linter.unusedVariables false
set_option linter.unusedSimpArgs false
open Go.RowKit
attribute [local irreducible] runG bytesG posG tileB rnG
theorem av29 : arV Try.prog 29 = some (64, 4) := by kernel_rfl
set_option maxRecDepth 4000 in
set_option maxHeartbeats 1000000 in
theorem rdtile_d (t : TL) : DFun Try.prog 12 [tD t] [] (.slf 1 (tileB t).length ((tileB t).flatMap u8V)) [] := by
  refine dcalls_go (N := 39) 0 (by kernel_rfl) Try.func12 rfl rfl rfl (by simp only [fr0, Nat.zero_add, Nat.reduceAdd]; exact rfl) rfl fun s0 hs0 => ?_
  refine zaf ?_
  refine zah 1 (by simp only [holes, List.cons_append, List.nil_append]; exact rfl) ?_
  refine zad ?_
  refine walk_w rfl rfl rfl (op_boxa 0 rfl (ev1 rfl) rfl) (by simp only [upd, za, zaa]; exact rfl) ?_
  refine zab rfl rfl rfl (zac (.inr rfl) (ev1 rfl)) ?_
  refine zae ?_
  refine zaf ?_
  refine zad ?_
  refine zab rfl rfl rfl (zac (.inr rfl) (ev1 rfl)) ?_
  refine zae ?_
  refine zaf ?_
  refine zad ?_
  refine zab rfl rfl rfl (zac (.inr rfl) (ev1 rfl)) ?_
  refine zae ?_
  refine zaf ?_
  refine zaf ?_
  refine zad ?_
  refine zab rfl rfl rfl (op_ldw rfl tb29 (ev1 rfl) rfl (tc_len _)) ?_
  refine zab rfl rfl rfl (zac (.inl rfl) (ev1 rfl)) ?_
  refine zae ?_
  refine dwp_block ?_
  refine dwp_adopt 3 5 1 rfl rfl rfl ?_
  refine dwp_loopS ⟨hs0, rfl⟩ (α := Nat × Nat) (fun x => [(4, .val (.int .i64 (x.2 : Int))), (8, .val (.int .i64 ((posG (runG t.l) x.1 + x.2 : Nat) : Int)))]) [(1, _), (3, _), (7, _)] (fun x => [(1, .arr 5 1 (bytesG ((runG t.l).take (x.1))).length ((bytesG ((runG t.l).take (x.1))).flatMap u8V))]) [_, .hole] (fun x => x.1 ≤ (runG t.l).length ∧ (x.1 < (runG t.l).length → x.2 < (rnG t x.1).1) ∧ (x.1 = (runG t.l).length → x.2 = 0)) (fun x => 64 - (posG (runG t.l) x.1 + x.2)) (0, 0) [0, 1] (⟨Nat.zero_le _, fun h => by rw [rnG_eq h]; exact (runG_bd h).1, fun _ => rfl⟩) rfl ⟨rfl, rfl, rfl, trivial⟩ ⟨rfl, by rw [posG_zero]; rfl, trivial⟩ ⟨rfl, by rw [List.take_zero, bytesG_nil]; rfl, trivial⟩ ?_
  intro x hx
  simp only [upd, za, zaa, List.cons_append, List.nil_append]
  obtain ⟨k, m⟩ := x
  obtain ⟨hk0, hkm, hke⟩ := hx
  have hpf : posG (runG t.l) (k, m).fst = posG (runG t.l) k := rfl
  have hpm : (k, m).snd = m := rfl
  have hkm : k < (runG t.l).length → m < (rnG t k).1 := hkm
  have hke : k = (runG t.l).length → m = 0 := hke
  have hbl : (bytesG ((runG t.l).take k)).length ≤ 5000 := by
    have h1 := runG_len t.l
    have h2 := t.h
    rw [bytesG_len, List.length_take]; omega
  refine zaf ?_
  refine zad ?_
  refine zab rfl rfl rfl (op_lss rfl (ev1 rfl) (ev1 rfl)) ?_
  refine zae ?_
  refine zaf ?_
  refine dwp_cond rfl (fun c1 => ?_) (fun c1 => ?_)
  · try simp only [yg, ya, beq_iff_eq, bne_iff_ne, yb, yc, yf, ye, yh, yi, yd, ne_eq, yj, Int.not_lt, Int.not_le] at c1
    have hk : k < (runG t.l).length := by
      rcases Nat.lt_or_ge k (runG t.l).length with h | h
      · exact h
      · obtain rfl : k = (runG t.l).length := by omega
        rw [runG_pos] at c1
        omega
    obtain ⟨hn1, hn2⟩ := runG_bd hk
    have hm : m < (runG t.l)[k].1 := by have := hkm hk; rw [rnG_eq hk] at this; exact this
    have hga := runG_at hk hm
    refine dwp_skip ?_
    refine zaf ?_
    refine dwp_block ?_
    refine zaf ?_
    refine zah 1 (by simp only [holes, List.cons_append, List.nil_append]; exact rfl) ?_
    refine zad ?_
    refine zab rfl rfl rfl (zac (.inl rfl) (ev1 rfl)) ?_
    refine zab rfl rfl rfl ((op_ixv (j := posG (runG t.l) k + m) (zC4) rfl av29 (ev1 rfl) (ev1 rfl) (fun _ => by first | rfl | omega) (fun _ => by omega) ((TL.h _)) (fun _ => rfl)).wk (Wk.of_eq (d' := .val (.agg (c4 (runG t.l)[k].2).toArray)) (by rw [← hga]; rfl))) ?_
    refine walk_w rfl rfl rfl (op_alloc 2 rfl zr27 rfl) (by simp only [upd, za, zaa]; exact rfl) ?_
    refine zab rfl rfl rfl (zac (.inr rfl) (ev1 rfl)) ?_
    refine walk_s rfl rfl (op_stwa rfl tb27 (ev1 rfl) (ev1 rfl) rfl rfl rfl rfl) (by simp only [upd, za, zaa]; exact rfl) ?_
    refine zae ?_
    refine zaf ?_
    refine zad ?_
    refine zab rfl rfl rfl (zac (.inl rfl) (ev1 rfl)) ?_
    refine zab rfl rfl rfl (op_add' rfl (ev1 rfl) (ev1 rfl) (fun _ => IntWalk.i64_in _ (by omega))) ?_
    refine zab rfl rfl rfl (zac (.inr rfl) (ev1 rfl)) ?_
    refine zae ?_
    refine zaf ?_
    refine dwp_draw [([], []), ([], []), ([], []), ([], []), ([], []), ([], []), ([0], []), ([2], []), ([], []), ([], [])] mixed (by kernel_rfl) ?_
    refine zag rfl rfl (zac (.inl rfl) (ev1 rfl)) ?_
    refine zag rfl rfl (op_eql rfl (ev1 rfl) (ev1 rfl)) ?_
    refine zag rfl rfl (zac (.inl rfl) (ev1 rfl)) ?_
    refine lex_gr (gd_f rfl rfl rfl) rfl rfl (zac (.inl rfl) (ev1 rfl)) ?_
    refine lex_gr (gd_f rfl rfl rfl) rfl rfl (op_add' rfl (ev2 rfl) (ev1 rfl) (fun hp => IntWalk.i64_in _ (by first | omega | (simp at hp; omega)))) ?_
    refine lex_gr (gd_f rfl rfl rfl) rfl rfl (op_ixfr (j := posG (runG t.l) k + m + 1) rfl ar29 (ev1 rfl) (ev2 rfl) (fun hp => by first | omega | (simp at hp; omega)) (fun hp => by first | omega | (simp at hp; omega))) ?_
    refine lex_gr (gd_f rfl rfl rfl) rfl rfl (op_ldfr (zC4) rfl tb27 (ev2 rfl) rfl (fun _ => rfl) (fun hp => by rw [TL.h]; simp at hp; omega)) ?_
    refine lex_gr (gd_f rfl rfl rfl) rfl rfl (op_ldw rfl tb27 (ev1 rfl) rfl rfl) ?_
    refine lex_gr (gd_f rfl rfl rfl) rfl rfl (op_ner eq27 rfl gd27 tb27 (ev2 rfl) (ev2 rfl)) ?_
    refine zag rfl rfl (op_or rfl (ev1 rfl) (ev3 rfl id)) ?_
    refine lex_nil ?_
    refine dwp_cond rfl (fun c3 => ?_) (fun c3 => ?_)
    · have hm1 : m + 1 = (runG t.l)[k].1 := by
        rcases Nat.lt_or_ge (m + 1) (runG t.l)[k].1 with h | h
        · have h2 := runG_at hk h
          rw [← Nat.add_assoc] at h2
          simp at c3
          rcases c3 with c3 | c3
          · omega
          · exact absurd h2 c3
        · omega
      have hrk : (runG t.l)[k] = (m + 1, (runG t.l)[k].2) := by rw [hm1]
      refine zaf ?_
      refine zah 1 (by simp only [holes, List.cons_append, List.nil_append]; exact rfl) ?_
      refine zad ?_
      refine zab rfl rfl rfl (zac (.inl rfl) (ev1 rfl)) ?_
      refine zab rfl rfl rfl (zac (.inl rfl) (ev1 rfl)) ?_
      refine zab rfl rfl rfl (op_conv' ty3 kn5 rfl (ev1 rfl) (fun _ => IntWalk.u8_in _ (by omega))) ?_
      refine zab rfl rfl rfl (op_fa rfl fo27_0 (ev1 rfl)) ?_
      refine zab rfl rfl rfl (op_ldo rfl tb5 (ev1 rfl) rfl rfl) ?_
      refine zab rfl rfl rfl (op_fa rfl fo27_1 (ev1 rfl)) ?_
      refine zab rfl rfl rfl (op_ldo rfl tb5 (ev1 rfl) rfl rfl) ?_
      refine zab rfl rfl rfl (op_fa rfl fo27_2 (ev1 rfl)) ?_
      refine zab rfl rfl rfl (op_ldo rfl tb5 (ev1 rfl) rfl rfl) ?_
      refine zab rfl rfl rfl (op_fa rfl fo27_3 (ev1 rfl)) ?_
      refine zab rfl rfl rfl (op_ldo rfl tb5 (ev1 rfl) rfl rfl) ?_
      refine zab rfl rfl rfl (op_bs (ps := [(0, .tmp 26), (1, .tmp 28), (2, .tmp 30), (3, .tmp 32), (4, .tmp 34)]) rfl sl23 zr5 rfl (vc (ev1 rfl) (vc (ev1 rfl) (vc (ev1 rfl) (vc (ev1 rfl) (vc (ev1 rfl) vn))))) rfl (by decide) (by decide)) ?_
      refine walk_w rfl rfl rfl (op_app (j := 3) rfl sl23 zr5 rfl (ev1 rfl) (ev1 rfl) src_slf rfl rfl (fun _ => rfl) (fun _ => ⟨by omega, by omega⟩)) (by simp only [upd, za, zaa]; exact rfl) ?_
      refine zab rfl rfl rfl (zac (.inr rfl) (ev1 rfl)) ?_
      refine zae ?_
      refine zad ?_
      refine zab rfl rfl rfl (zac (.inr rfl) (ev1 rfl)) ?_
      refine zae ?_
      refine zad ?_
      refine zab rfl rfl rfl (op_add' rfl (ev1 rfl) (ev1 rfl) (fun _ => IntWalk.i64_in _ (by omega))) ?_
      refine zab rfl rfl rfl (zac (.inl rfl) (ev1 rfl)) ?_
      refine zae ?_
      have hpa := posG_add hk
      rw [← hm1] at hpa
      refine ⟨(k + 1, 0), [0, 3], ⟨hk, fun h => by rw [rnG_eq h]; exact (runG_bd h).1, fun _ => rfl⟩, (by show 64 - (posG (runG t.l) (k + 1) + 0) < 64 - (posG (runG t.l) k + m); omega), rfl, ⟨rfl, by rw [hpa]; rfl, rfl, rfl, rfl, trivial⟩, ⟨rfl, arr_eq (by rw [bytesG_take hk, List.length_append]; rfl) (by rw [bytesG_take hk, List.flatMap_append, hrk]; rfl), trivial⟩⟩
    · have hm2 : m + 1 < (runG t.l)[k].1 := by
        rcases Nat.lt_or_ge (m + 1) (runG t.l)[k].1 with h | h
        · exact h
        · have hmn : m + 1 = (runG t.l)[k].1 := by omega
          simp at c3
          have h2 := runG_not hk (by omega)
          rw [← hmn, ← Nat.add_assoc] at h2
          exact absurd c3.2 h2
      refine dwp_skip ?_
      refine zad ?_
      refine zab rfl rfl rfl (op_add' rfl (ev1 rfl) (ev1 rfl) (fun _ => IntWalk.i64_in _ (by omega))) ?_
      refine zab rfl rfl rfl (zac (.inl rfl) (ev1 rfl)) ?_
      refine zae ?_
      refine ⟨(k, m + 1), [0, 1], ⟨hk0, fun _ => by rw [rnG_eq hk]; omega, fun h => absurd h (by omega)⟩, (by show 64 - (posG (runG t.l) k + (m + 1)) < 64 - (posG (runG t.l) k + m); omega), rfl, ⟨rfl, rfl, rfl, rfl, rfl, trivial⟩, ⟨rfl, rfl, trivial⟩⟩
  · try simp only [yg, ya, beq_iff_eq, bne_iff_ne, yb, yc, yf, ye, yh, yi, yd, ne_eq, yj, Int.not_lt, Int.not_le] at c1
    have hke2 : k = (runG t.l).length := by
      rcases Nat.lt_or_ge k (runG t.l).length with h | h
      · have h1 := runG_bd h
        have h2 := hkm h
        rw [rnG_eq h] at h2
        omega
      · omega
    refine dwp_exit ?_
    refine zaf ?_
    refine dwp_giveA 3 rfl rfl (by simp only [za, zaa]; exact rfl) ?_
    subst hke2
    rw [List.take_length]
    refine zad ?_
    refine zab rfl rfl rfl (zac (.inl rfl) (ev1 rfl)) ?_
    refine zab rfl rfl rfl (zac (.inr rfl) (ev1 rfl)) ?_
    refine zae ?_
    refine dwp_ret ?_
    refine kend0 (rs1 rfl (rv_t rfl)) rfl ?_
    unfold tileB
    rfl
end Go.Proofs.Ytcbfnbfhlofkiaa
namespace Go.Proofs.Ytcbfnbfhlofkiaa
set_option maxRecDepth 4000
set_option linter.unusedVariables false
set_option linter.unusedSimpArgs false
open Go.RowKit
set_option maxRecDepth 4000 in
set_option maxHeartbeats 1000000 in
theorem take2_no (B : List Int) (hB : B.length ≤ 4000000000000000000) (p : Nat) (hp : p ≤ B.length) (hq : ¬ p + 2 ≤ B.length) : DPanL Try.prog 59 [.loc 0 0, .val (.int .i64 (2 : Int))] [.mix 71 [.val (.int .i64 0), .val (.int .i64 0), .val (.slice none 0 0), .slf 1 (B).length ((B).flatMap u8V), .val (.int .i64 (p : Int))]] (.ifc 86 (.val (.agg #[]))) := by
  refine dcalls_go (N := 38) 1 (by kernel_rfl) Try.func59 rfl rfl rfl (by simp only [fr0, Nat.zero_add, Nat.reduceAdd]; exact rfl) rfl fun s0 hs0 => ?_
  refine zaf ?_
  refine zad ?_
  refine zab rfl rfl rfl (zac (.inr rfl) (ev1 rfl)) ?_
  refine zae ?_
  refine zaf ?_
  refine dwp_draw [([], []), ([], []), ([], []), ([0], []), ([], []), ([], []), ([], []), ([0], []), ([], []), ([], []), ([], []), ([], [])] mixed (by kernel_rfl) ?_
  refine zag rfl rfl (zac (.inl rfl) (ev1 rfl)) ?_
  refine zag rfl rfl (op_nc rfl (ev1 rfl) (fun s v h => by cases h; exact ⟨_, rfl⟩)) ?_
  refine zag rfl rfl (op_fa rfl fo71_2 (ev1 rfl)) ?_
  refine zag rfl rfl (op_ldm rfl tb3 (ev1 rfl) rfl rfl) ?_
  refine zag rfl rfl (zac (.inl rfl) (ev1 rfl)) ?_
  refine zag rfl rfl (op_nc rfl (ev1 rfl) (fun s v h => by cases h; exact ⟨_, rfl⟩)) ?_
  refine zag rfl rfl (op_fa rfl fo71_2 (ev1 rfl)) ?_
  refine zag rfl rfl (op_ldm rfl tb3 (ev1 rfl) rfl rfl) ?_
  refine zag rfl rfl (zac (.inl rfl) (ev1 rfl)) ?_
  refine zag rfl rfl (op_add' rfl (ev1 rfl) (ev1 rfl) (fun _ => IntWalk.i64_in _ (by omega))) ?_
  refine zag rfl rfl (zac (.inr rfl) (ev1 rfl)) ?_
  refine zag rfl rfl (zac (.inr rfl) (ev1 rfl)) ?_
  refine lex_nil ?_
  refine zaf ?_
  refine zaf ?_
  refine zad ?_
  refine zab rfl rfl rfl (zac (.inl rfl) (ev1 rfl)) ?_
  refine zab rfl rfl rfl (zac (.inl rfl) (ev1 rfl)) ?_
  refine zab rfl rfl rfl (op_nc rfl (ev1 rfl) (fun s v h => by cases h; exact ⟨_, rfl⟩)) ?_
  refine zab rfl rfl rfl (op_fa rfl fo71_1 (ev1 rfl)) ?_
  refine zab rfl rfl rfl (op_ldm rfl tb23 (ev1 rfl) rfl rfl) ?_
  refine zab rfl rfl rfl (op_len rfl sl23 (ev1 rfl)) ?_
  refine zab rfl rfl rfl (op_gtr rfl (ev1 rfl) (ev1 rfl)) ?_
  refine zae ?_
  refine dwp_if_t rfl (by simp; omega) ?_
  refine zad ?_
  refine zab rfl rfl rfl (op_build0 rfl fl86 zr86) ?_
  refine zab rfl rfl rfl (op_mi rfl ni86 (ev1 rfl)) ?_
  refine walk_p rfl (op_pan rfl (ev1 rfl)) rfl ?_
  refine kpanL (Mo := [_]) [0] rfl rfl ?_ ⟨rfl, trivial⟩ rfl
  rfl
end Go.Proofs.Ytcbfnbfhlofkiaa
namespace Go.Proofs.Ytcbfnbfhlofkiaa
set_option maxRecDepth 4000
set_option linter.unusedVariables false
set_option linter.unusedSimpArgs false
open Go.RowKit
attribute [local irreducible] padT rdP rdN mayG
set_option maxRecDepth 4000 in
set_option maxHeartbeats 1000000 in
theorem sizes_n1 (B : List Int) (hB : B.length ≤ 4000000000000000000) (hi : isB B) (h2 : ¬ 0 + 2 ≤ B.length) : DPanL Try.prog 45 [.loc 0 0] [.mix 71 [.val (.int .i64 0), .val (.int .i64 0), .val (.slice none 0 0), .slf 1 (B).length ((B).flatMap u8V), .val (.int .i64 (0 : Int))]] (.ifc 86 (.val (.agg #[]))) := by
  refine dcalls_go (N := 41) 1 (by kernel_rfl) Try.func45 rfl rfl rfl (by simp only [fr0, Nat.zero_add, Nat.reduceAdd]; exact rfl) rfl fun s0 hs0 => ?_
  refine zaf ?_
  refine zad ?_
  refine zab rfl rfl rfl (zac (.inl rfl) (ev1 rfl)) ?_
  refine walk_p rfl (dop_callP [0] [] [] rfl (ev1 rfl) (ec (ev1 rfl) (ec (ev1 rfl) en)) rfl rfl ((take2_no B hB 0 (Nat.zero_le _) h2).dead) rfl rfl rfl rfl rfl rfl) rfl ?_
  refine kpanL (Mo := [_]) [0] rfl rfl ?_ ⟨rfl, trivial⟩ rfl
  rfl
set_option maxRecDepth 4000 in
set_option maxHeartbeats 1000000 in
theorem sizes_n2 (B : List Int) (hB : B.length ≤ 4000000000000000000) (hi : isB B) (h2 : 0 + 2 ≤ B.length) (hm : mayS (bAt B 0) (bAt B 1) = false) : DPanL Try.prog 45 [.loc 0 0] [.mix 71 [.val (.int .i64 0), .val (.int .i64 0), .val (.slice none 0 0), .slf 1 (B).length ((B).flatMap u8V), .val (.int .i64 (0 : Int))]] (.ifc 86 (.val (.agg #[]))) := by
  refine dcalls_go (N := 41) 1 (by kernel_rfl) Try.func45 rfl rfl rfl (by simp only [fr0, Nat.zero_add, Nat.reduceAdd]; exact rfl) rfl fun s0 hs0 => ?_
  refine zaf ?_
  refine zad ?_
  refine zab rfl rfl rfl (zac (.inl rfl) (ev1 rfl)) ?_
  refine walk_w rfl rfl rfl (zaj [0] [] [] rfl (ev1 rfl) (ec (ev1 rfl) (ec (ev1 rfl) en)) rfl rfl (take2 B hB 0 h2) rfl rfl rfl rfl rfl rfl) (by simp only [upd, za, zaa]; exact rfl) ?_
  refine zab rfl rfl rfl (zac (.inr rfl) (ev1 rfl)) ?_
  refine zae ?_
  refine zaf ?_
  refine dwp_draw [([], []), ([], []), ([], []), ([], []), ([], []), ([], []), ([], []), ([], []), ([], []), ([], []), ([], []), ([], []), ([], []), ([0], [0]), ([], []), ([], []), ([], []), ([0], [0])] mixed (by kernel_rfl) ?_
  refine zag rfl rfl (zac (.inl rfl) (ev1 rfl)) ?_
  refine zag rfl rfl (zac (.inl rfl) (ev1 rfl)) ?_
  refine zag rfl rfl (zac (.inl rfl) (ev1 rfl)) ?_
  refine zag rfl rfl (op_ixsr (l := (row2 B 0)) (en := u8V) (j := 0) rfl sl23 (ev1 rfl) (ev1 rfl) (fun _ => rfl) (by decide) rfl (Nat.lt_of_succ_le (Nat.le_of_ble_eq_true rfl))) ?_
  refine zag rfl rfl ((op_ldod rfl tb5 (ev1 rfl) rfl).wk (Wk.of_eq (d' := .val (.int .u8 (bAt B 0))) rfl)) ?_
  refine zag rfl rfl (op_conv' ty5 kn3 rfl (ev1 rfl) (fun _ => by have := bAt_in hi 0; exact IntWalk.i64_in _ (by omega))) ?_
  refine zag rfl rfl (zac (.inl rfl) (ev1 rfl)) ?_
  refine zag rfl rfl (op_ixsr (l := (row2 B 0)) (en := u8V) (j := 1) rfl sl23 (ev1 rfl) (ev1 rfl) (fun _ => rfl) (by decide) rfl (Nat.lt_of_succ_le (Nat.le_of_ble_eq_true rfl))) ?_
  refine zag rfl rfl ((op_ldod rfl tb5 (ev1 rfl) rfl).wk (Wk.of_eq (d' := .val (.int .u8 (bAt B 1))) rfl)) ?_
  refine zag rfl rfl (op_conv' ty5 kn3 rfl (ev1 rfl) (fun _ => by have := bAt_in hi 1; exact IntWalk.i64_in _ (by omega))) ?_
  refine zag rfl rfl (op_nc rfl (ev1 rfl) (fun s v h => by cases h; exact ⟨_, rfl⟩)) ?_
  refine zag rfl rfl (op_fa rfl fo71_0 (ev1 rfl)) ?_
  refine zag rfl rfl (op_fa rfl fo41_0 (ev1 rfl)) ?_
  refine lex_s rfl rfl (op_stm rfl tb3 (ev1 rfl) (ev1 rfl) (fun s v h => by cases h <;> exact ⟨rfl, rfl⟩) rfl (by first | decide | exact Nat.le_of_ble_eq_true rfl | simp)) rfl (by simp only [upd, za, zaa]; exact rfl) ?_
  refine zag rfl rfl (op_nc rfl (ev1 rfl) (fun s v h => by cases h; exact ⟨_, rfl⟩)) ?_
  refine zag rfl rfl (op_fa rfl fo71_0 (ev1 rfl)) ?_
  refine zag rfl rfl (op_fa rfl fo41_1 (ev1 rfl)) ?_
  refine lex_s rfl rfl (op_stm rfl tb3 (ev1 rfl) (ev1 rfl) (fun s v h => by cases h <;> exact ⟨rfl, rfl⟩) rfl (by first | decide | exact Nat.le_of_ble_eq_true rfl | simp)) rfl (by simp only [upd, za, zaa]; exact rfl) ?_
  refine lex_nil ?_
  refine zaf ?_
  refine dwp_draw [([], []), ([], []), ([], []), ([], []), ([0], []), ([], []), ([], []), ([], []), ([], []), ([0], []), ([], []), ([], []), ([], []), ([], []), ([], []), ([], [])] mixed (by kernel_rfl) ?_
  refine zag rfl rfl (zac (.inl rfl) (ev1 rfl)) ?_
  refine zag rfl rfl (op_nc rfl (ev1 rfl) (fun s v h => by cases h; exact ⟨_, rfl⟩)) ?_
  refine zag rfl rfl (op_fa rfl fo71_0 (ev1 rfl)) ?_
  refine zag rfl rfl (op_fa rfl fo41_0 (ev1 rfl)) ?_
  refine zag rfl rfl (op_ldm rfl tb3 (ev1 rfl) rfl rfl) ?_
  refine zag rfl rfl (zac (.inl rfl) (ev1 rfl)) ?_
  refine zag rfl rfl (op_nc rfl (ev1 rfl) (fun s v h => by cases h; exact ⟨_, rfl⟩)) ?_
  refine zag rfl rfl (op_fa rfl fo71_0 (ev1 rfl)) ?_
  refine zag rfl rfl (op_fa rfl fo41_1 (ev1 rfl)) ?_
  refine zag rfl rfl (op_ldm rfl tb3 (ev1 rfl) rfl rfl) ?_
  refine zag rfl rfl (zaj [] [] [] rfl (ev1 rfl) (ec (ev1 rfl) (ec (ev1 rfl) en)) rfl rfl (cnew_0 (bAt B 0) (bAt B 1) hm) rfl rfl rfl rfl rfl rfl) ?_
  refine zag rfl rfl (zac (.inl rfl) (ev1 rfl)) ?_
  refine zag rfl rfl (op_ext rfl (ev1 rfl) rfl) ?_
  refine zag rfl rfl (op_ext rfl (ev1 rfl) rfl) ?_
  refine zag rfl rfl (zac (.inr rfl) (ev1 rfl)) ?_
  refine zag rfl rfl (zac (.inr rfl) (ev1 rfl)) ?_
  refine lex_nil ?_
  refine zaf ?_
  refine zad ?_
  refine zab rfl rfl rfl (zac (.inl rfl) (ev1 rfl)) ?_
  refine zab rfl rfl rfl (op_neq rfl (ev1 rfl) (ev1 rfl)) ?_
  refine zae ?_
  refine dwp_if_t rfl (rfl) ?_
  refine zad ?_
  refine zab rfl rfl rfl (op_build0 rfl fl86 zr86) ?_
  refine zab rfl rfl rfl (op_mi rfl ni86 (ev1 rfl)) ?_
  refine walk_p rfl (op_pan rfl (ev1 rfl)) rfl ?_
  refine kpanL (Mo := [_]) [0] rfl rfl ?_ ⟨rfl, trivial⟩ rfl
  rfl
end Go.Proofs.Ytcbfnbfhlofkiaa
namespace Go.Proofs.Ytcbfnbfhlofkiaa
set_option maxRecDepth 4000
set_option linter.unusedVariables false
set_option linter.unusedSimpArgs false
open Go.RowKit
attribute [local irreducible] padT rdP rdN mayG
theorem rdNs_len {kn : List TL → TL} {B : List Int} : ∀ {n : Nat} {acc : List TL} {p : Nat} {ts : List TL} {q : Nat}, p ≤ B.length → rdNs kn B n acc p = some (ts, q) → ts.length = acc.length + n ∧ p ≤ q ∧ q ≤ B.length
  | 0, acc, p, ts, q, hp, h => by cases h; exact ⟨rfl, Nat.le_refl _, hp⟩
  | n + 1, acc, p, ts, q, hp, h => by
    by_cases hz : zrB B p = true
    · obtain ⟨h1, h2, h3⟩ := rdNs_len (zrB_iff.1 hz).1 (rdNs_z (Nat.succ_pos n) hz h)
      exact ⟨by rw [h1, List.length_append]; simp; omega, by omega, h3⟩
    · obtain ⟨l, q', h0, hne⟩ := rdNs_some (Nat.succ_pos n) hz h
      obtain ⟨g1, g2, _⟩ := rdN_le h0
      obtain ⟨h1, h2, h3⟩ := rdNs_len g1 (rdNs_t (Nat.succ_pos n) hz h0 hne h)
      exact ⟨by rw [h1, List.length_append]; simp; omega, by omega, h3⟩
end Go.Proofs.Ytcbfnbfhlofkiaa
namespace Go.Proofs.Ytcbfnbfhlofkiaa
set_option maxRecDepth 4000
set_option linter.unusedVariables false
set_option linter.unusedSimpArgs false
open Go.RowKit
attribute [local irreducible] padT rdP rdN mayG
set_option maxRecDepth 4000 in
set_option maxHeartbeats 1000000 in
theorem there_k (a b : Int) (old : List TL) (us : List TL) (hk : us.length < old.length) : DFun Try.prog 58 [.val (.int .i64 (us.length : Int)), .loc 0 0] [.mix 80 [.loc 1 0], .mix 41 [.val (.int .i64 a), .val (.int .i64 b), .slf 256 old.length (old.flatMap tc)]] (.val (.agg (tc (thereK old us)).toArray)) [.mix 80 [.loc 1 0], .mix 41 [.val (.int .i64 a), .val (.int .i64 b), .slf 256 old.length (old.flatMap tc)]] := by
  refine dcalls_go (N := 11) 2 (by kernel_rfl) Try.func58 rfl rfl rfl (by simp only [fr0, Nat.zero_add, Nat.reduceAdd]; exact rfl) rfl fun s0 hs0 => ?_
  refine zaf ?_
  refine zah 1 (by simp only [holes, List.cons_append, List.nil_append]; exact rfl) ?_
  refine zad ?_
  refine walk_w rfl rfl rfl (op_alloc 2 rfl zr29 rfl) (by simp only [upd, za, zaa]; exact rfl) ?_
  refine zae ?_
  refine zaf ?_
  refine zad ?_
  refine zab rfl rfl rfl (op_ldm rfl tb80 (ev1 rfl) rfl rfl) ?_
  refine zab rfl rfl rfl (op_nc rfl (ev1 rfl) (fun s v h => by cases h; exact ⟨_, rfl⟩)) ?_
  refine zab rfl rfl rfl (op_fa rfl fo41_2 (ev1 rfl)) ?_
  refine zab rfl rfl rfl (op_ldm rfl tb22 (ev1 rfl) rfl rfl) ?_
  refine zab rfl rfl rfl (zac (.inl rfl) (ev1 rfl)) ?_
  refine zab rfl rfl rfl (op_ixsr (j := us.length) rfl sl22 (ev1 rfl) (ev1 rfl) tc_len (by decide) (by omega) (by omega)) ?_
  refine zab rfl rfl rfl (op_ldwd rfl tb29 (ev1 rfl) (tc_len _)) ?_
  refine walk_s rfl rfl (op_stwa rfl tb29 (ev1 rfl) (ev1 rfl) rfl (tc_len _) (tc_oc _) ((tc_len _).trans (tc_len _).symm)) (by simp only [upd, za, zaa]; exact rfl) ?_
  refine zae ?_
  refine dwp_ret ?_
  refine kend [0, 1] (rs1 rfl (rv_w tb29 rfl rfl (tc_len _))) rfl rfl ?_ ⟨rfl, rfl, trivial⟩
  rw [thereK_at hk]
set_option maxRecDepth 4000 in
set_option maxHeartbeats 1000000 in
theorem tiles_t (B : List Int) (hB : B.length ≤ 4000000000000000000) (hi : isB B) (w h : Int) (n : Nat) (hm : mayS w h = true) (hn : w * h = (n : Int)) (p0 : Nat) (hp0 : p0 ≤ B.length) (a b : Int) (old : List TL) (ho : n ≤ old.length) (ts : List TL) (q : Nat) (h0 : rdNs (thereK old) B n [] p0 = some (ts, q)) : DFun Try.prog 46 [.loc 0 0, .fn (.func 58) [] [.loc 1 0]] [.mix 71 [.val (.int .i64 w), .val (.int .i64 h), .val (.slice none 0 0), .slf 1 (B).length ((B).flatMap u8V), .val (.int .i64 ((p0 : Nat) : Int))], .mix 80 [.loc 2 0], .mix 41 [.val (.int .i64 a), .val (.int .i64 b), .slf 256 old.length (old.flatMap tc)]] (.tup []) [.mix 71 [.val (.int .i64 w), .val (.int .i64 h), .arr 3, .slf 1 (B).length ((B).flatMap u8V), .val (.int .i64 ((q : Nat) : Int))], .mix 80 [.loc 2 0], .mix 41 [.val (.int .i64 a), .val (.int .i64 b), .slf 256 old.length (old.flatMap tc)], .arr 29 256 (ts).length ((ts).flatMap tc)] := by
  have hb := mul_in hm
  refine dcalls_go (N := 28) 3 (by kernel_rfl) Try.func46 rfl rfl rfl (by simp only [fr0, Nat.zero_add, Nat.reduceAdd]; exact rfl) rfl fun s0 hs0 => ?_
  refine zaf ?_
  refine zad ?_
  refine zab rfl rfl rfl (zac (.inl rfl) (ev1 rfl)) ?_
  refine zab rfl rfl rfl (op_mkf rfl (ec (ev1 rfl) en) en) ?_
  refine zab rfl rfl rfl (zac (.inr rfl) (ev1 rfl)) ?_
  refine zae ?_
  refine zaf ?_
  refine dwp_adoptc (l' := [.val (.int .i64 w), .val (.int .i64 h), .arr 3, .slf 1 (B).length ((B).flatMap u8V), .val (.int .i64 (p0 : Int))]) 0 2 29 256 rfl rfl rfl rfl (by simp only [List.cons_append, List.nil_append, za, zaa]; exact rfl) ?_
  refine dwp_reb 3 reb_arr rfl rfl (by simp only [List.cons_append, List.nil_append, za, zaa, List.length_cons, List.length_nil, Nat.zero_add, Nat.reduceAdd]; exact rfl) ?_
  refine dwp_draw [([], []), ([], []), ([], []), ([], []), ([0], []), ([], []), ([], []), ([], []), ([], []), ([0], []), ([], []), ([], [])] mixed (by kernel_rfl) ?_
  refine zag rfl rfl (zac (.inl rfl) (ev1 rfl)) ?_
  refine zag rfl rfl (op_nc rfl (ev1 rfl) (fun s v h => by cases h; exact ⟨_, rfl⟩)) ?_
  refine zag rfl rfl (op_fa rfl fo71_0 (ev1 rfl)) ?_
  refine zag rfl rfl (op_fa rfl fo41_0 (ev1 rfl)) ?_
  refine zag rfl rfl (op_ldm rfl tb3 (ev1 rfl) rfl rfl) ?_
  refine zag rfl rfl (zac (.inl rfl) (ev1 rfl)) ?_
  refine zag rfl rfl (op_nc rfl (ev1 rfl) (fun s v h => by cases h; exact ⟨_, rfl⟩)) ?_
  refine zag rfl rfl (op_fa rfl fo71_0 (ev1 rfl)) ?_
  refine zag rfl rfl (op_fa rfl fo41_1 (ev1 rfl)) ?_
  refine zag rfl rfl (op_ldm rfl tb3 (ev1 rfl) rfl rfl) ?_
  refine zag rfl rfl (op_mul' rfl (ev1 rfl) (ev1 rfl) (fun _ => IntWalk.i64_in _ (by omega))) ?_
  refine zag rfl rfl (zac (.inl rfl) (ev1 rfl)) ?_
  refine lex_nil ?_
  refine dwp_block ?_
  refine dwp_loopS ⟨hs0, rfl⟩ (α := List TL × Nat) (fun x => [(19, .val (.int .i64 (x.1.length : Int)))]) [(1, _), (4, _), (18, _)] (fun x => [(0, .mix 71 [.val (.int .i64 w), .val (.int .i64 h), .arr 3, .slf 1 (B).length ((B).flatMap u8V), .val (.int .i64 ((x.2 : Nat) : Int))]), (3, .arr 29 256 (x.1).length ((x.1).flatMap tc))]) [.hole, _, _, .hole] (fun x => x.1.length ≤ n ∧ x.2 ≤ B.length ∧ rdNs (thereK old) B (n - x.1.length) x.1 x.2 = some (ts, q)) (fun x => n - x.1.length) ([], p0) [0, 1, 2, 3] (⟨Nat.zero_le _, hp0, h0⟩) rfl ⟨rfl, rfl, rfl, trivial⟩ ⟨rfl, trivial⟩ ⟨rfl, rfl, rfl, rfl, trivial⟩ ?_
  intro x hx
  simp only [upd, za, zaa, List.cons_append, List.nil_append]
  obtain ⟨us, p⟩ := x
  obtain ⟨hul, hp, hrd⟩ := hx
  dsimp only at hul hp hrd ⊢
  refine zaf ?_
  refine zad ?_
  refine zab rfl rfl rfl (op_lss rfl (ev1 rfl) (ev1 rfl)) ?_
  refine zae ?_
  refine zaf ?_
  refine dwp_cond rfl (fun c1 => ?_) (fun c1 => ?_)
  · try simp only [yg, ya, beq_iff_eq, bne_iff_ne, yb, yc, yf, ye, yh, yi, yd, ne_eq, yj, Int.not_lt, Int.not_le] at c1
    have hlt : us.length < n := by omega
    refine dwp_skip ?_
    refine zaf ?_
    refine dwp_block ?_
    refine zaf ?_
    refine zad ?_
    refine zab rfl rfl rfl (zac (.inl rfl) (ev1 rfl)) ?_
    refine zab rfl rfl rfl (zac (.inr rfl) (ev1 rfl)) ?_
    refine zae ?_
    by_cases hz : zrB B p = true
    · refine zah 1 (by simp only [holes, List.cons_append, List.nil_append]; exact rfl) ?_
      refine zad ?_
      refine zab rfl rfl rfl (zac (.inl rfl) (ev1 rfl)) ?_
      refine zab rfl rfl rfl (zac (.inl rfl) (ev1 rfl)) ?_
      refine zab rfl rfl rfl (zac (.inl rfl) (ev1 rfl)) ?_
      refine walk_w rfl rfl rfl (zaj [1, 2] [] [] rfl (ev1 rfl) (ec (ev1 rfl) en) rfl rfl (there_k a b old us (by omega)) rfl rfl rfl rfl rfl rfl) (by simp only [upd, za, zaa]; exact rfl) ?_
      refine walk_w rfl rfl rfl (zaj [0, 3] [] [4] rfl (ev1 rfl) (ec (ev1 rfl) en) rfl rfl (next_z B hB w h us (by omega) hi ((thereK old) us) p hp (zrB_iff.1 hz)) rfl rfl rfl rfl rfl rfl) (by simp only [upd, za, zaa]; exact rfl) ?_
      refine zae ?_
      refine zad ?_
      refine zab rfl rfl rfl (op_add' rfl (ev1 rfl) (ev1 rfl) (fun _ => IntWalk.i64_in _ (by omega))) ?_
      refine zab rfl rfl rfl (zac (.inl rfl) (ev1 rfl)) ?_
      refine zae ?_
      refine ⟨(us ++ [(thereK old) us], p + 1), [0, 1, 2, 4], ⟨by rw [List.length_append]; exact hlt, (zrB_iff.1 hz).1, by rw [List.length_append]; exact rdNs_z (n := n - us.length) (by omega) hz hrd⟩, by simp only [List.length_append, List.length_cons, List.length_nil]; omega, rfl, ⟨by rw [List.length_append]; rfl, rfl, rfl, rfl, trivial⟩, ⟨rfl, rfl, rfl, rfl, trivial⟩⟩
    · obtain ⟨l, q1, hl0, hne⟩ := rdNs_some (n := n - us.length) (by omega) hz hrd
      refine zah 1 (by simp only [holes, List.cons_append, List.nil_append]; exact rfl) ?_
      refine zad ?_
      refine zab rfl rfl rfl (zac (.inl rfl) (ev1 rfl)) ?_
      refine zab rfl rfl rfl (zac (.inl rfl) (ev1 rfl)) ?_
      refine zab rfl rfl rfl (zac (.inl rfl) (ev1 rfl)) ?_
      refine walk_w rfl rfl rfl (zaj [1, 2] [] [] rfl (ev1 rfl) (ec (ev1 rfl) en) rfl rfl (there_k a b old us (by omega)) rfl rfl rfl rfl rfl rfl) (by simp only [upd, za, zaa]; exact rfl) ?_
      refine walk_w rfl rfl rfl (zaj [0, 3] [] [4] rfl (ev1 rfl) (ec (ev1 rfl) en) rfl rfl (next_t B hB w h us (by omega) hi ((thereK old) us) p hp (fun e => hz (zrB_iff.2 e)) l q1 hl0 hne) rfl rfl rfl rfl rfl rfl) (by simp only [upd, za, zaa]; exact rfl) ?_
      refine zae ?_
      refine zad ?_
      refine zab rfl rfl rfl (op_add' rfl (ev1 rfl) (ev1 rfl) (fun _ => IntWalk.i64_in _ (by omega))) ?_
      refine zab rfl rfl rfl (zac (.inl rfl) (ev1 rfl)) ?_
      refine zae ?_
      refine ⟨(us ++ [padT l], q1), [0, 1, 2, 4], ⟨by rw [List.length_append]; exact hlt, (rdN_le hl0).1, by rw [List.length_append]; exact rdNs_t (n := n - us.length) (by omega) hz hl0 hne hrd⟩, by simp only [List.length_append, List.length_cons, List.length_nil]; omega, rfl, ⟨by rw [List.length_append]; rfl, rfl, rfl, rfl, trivial⟩, ⟨rfl, rfl, rfl, rfl, trivial⟩⟩
  · try simp only [yg, ya, beq_iff_eq, bne_iff_ne, yb, yc, yf, ye, yh, yi, yd, ne_eq, yj, Int.not_lt, Int.not_le] at c1
    refine dwp_exit ?_
    have e0 : n - us.length = 0 := by omega
    rw [e0] at hrd
    have hrd2 : some (us, p) = some (ts, q) := hrd
    cases hrd2
    refine kend [0, 1, 2, 3] (res_none rfl) rfl rfl ?_ ⟨rfl, rfl, rfl, rfl, trivial⟩
    rfl
set_option maxRecDepth 4000 in
set_option maxHeartbeats 1000000 in
theorem tiles_tn (B : List Int) (hB : B.length ≤ 4000000000000000000) (hi : isB B) (w h : Int) (n : Nat) (hm : mayS w h = true) (hn : w * h = (n : Int)) (p0 : Nat) (hp0 : p0 ≤ B.length) (a b : Int) (old : List TL) (ho : n ≤ old.length) (h0 : rdNs (thereK old) B n [] p0 = none) : DPanL Try.prog 46 [.loc 0 0, .fn (.func 58) [] [.loc 1 0]] [.mix 71 [.val (.int .i64 w), .val (.int .i64 h), .val (.slice none 0 0), .slf 1 (B).length ((B).flatMap u8V), .val (.int .i64 ((p0 : Nat) : Int))], .mix 80 [.loc 2 0], .mix 41 [.val (.int .i64 a), .val (.int .i64 b), .slf 256 old.length (old.flatMap tc)]] (.ifc 86 (.val (.agg #[]))) := by
  have hb := mul_in hm
  refine dcalls_go (N := 28) 3 (by kernel_rfl) Try.func46 rfl rfl rfl (by simp only [fr0, Nat.zero_add, Nat.reduceAdd]; exact rfl) rfl fun s0 hs0 => ?_
  refine zaf ?_
  refine zad ?_
  refine zab rfl rfl rfl (zac (.inl rfl) (ev1 rfl)) ?_
  refine zab rfl rfl rfl (op_mkf rfl (ec (ev1 rfl) en) en) ?_
  refine zab rfl rfl rfl (zac (.inr rfl) (ev1 rfl)) ?_
  refine zae ?_
  refine zaf ?_
  refine dwp_adoptc (l' := [.val (.int .i64 w), .val (.int .i64 h), .arr 3, .slf 1 (B).length ((B).flatMap u8V), .val (.int .i64 (p0 : Int))]) 0 2 29 256 rfl rfl rfl rfl (by simp only [List.cons_append, List.nil_append, za, zaa]; exact rfl) ?_
  refine dwp_reb 3 reb_arr rfl rfl (by simp only [List.cons_append, List.nil_append, za, zaa, List.length_cons, List.length_nil, Nat.zero_add, Nat.reduceAdd]; exact rfl) ?_
  refine dwp_draw [([], []), ([], []), ([], []), ([], []), ([0], []), ([], []), ([], []), ([], []), ([], []), ([0], []), ([], []), ([], [])] mixed (by kernel_rfl) ?_
  refine zag rfl rfl (zac (.inl rfl) (ev1 rfl)) ?_
  refine zag rfl rfl (op_nc rfl (ev1 rfl) (fun s v h => by cases h; exact ⟨_, rfl⟩)) ?_
  refine zag rfl rfl (op_fa rfl fo71_0 (ev1 rfl)) ?_
  refine zag rfl rfl (op_fa rfl fo41_0 (ev1 rfl)) ?_
  refine zag rfl rfl (op_ldm rfl tb3 (ev1 rfl) rfl rfl) ?_
  refine zag rfl rfl (zac (.inl rfl) (ev1 rfl)) ?_
  refine zag rfl rfl (op_nc rfl (ev1 rfl) (fun s v h => by cases h; exact ⟨_, rfl⟩)) ?_
  refine zag rfl rfl (op_fa rfl fo71_0 (ev1 rfl)) ?_
  refine zag rfl rfl (op_fa rfl fo41_1 (ev1 rfl)) ?_
  refine zag rfl rfl (op_ldm rfl tb3 (ev1 rfl) rfl rfl) ?_
  refine zag rfl rfl (op_mul' rfl (ev1 rfl) (ev1 rfl) (fun _ => IntWalk.i64_in _ (by omega))) ?_
  refine zag rfl rfl (zac (.inl rfl) (ev1 rfl)) ?_
  refine lex_nil ?_
  refine dwp_block ?_
  refine dwp_loopS ⟨hs0, rfl⟩ (α := List TL × Nat) (fun x => [(19, .val (.int .i64 (x.1.length : Int)))]) [(1, _), (4, _), (18, _)] (fun x => [(0, .mix 71 [.val (.int .i64 w), .val (.int .i64 h), .arr 3, .slf 1 (B).length ((B).flatMap u8V), .val (.int .i64 ((x.2 : Nat) : Int))]), (3, .arr 29 256 (x.1).length ((x.1).flatMap tc))]) [.hole, _, _, .hole] (fun x => x.1.length ≤ n ∧ x.2 ≤ B.length ∧ rdNs (thereK old) B (n - x.1.length) x.1 x.2 = none) (fun x => n - x.1.length) ([], p0) [0, 1, 2, 3] (⟨Nat.zero_le _, hp0, h0⟩) rfl ⟨rfl, rfl, rfl, trivial⟩ ⟨rfl, trivial⟩ ⟨rfl, rfl, rfl, rfl, trivial⟩ ?_
  intro x hx
  simp only [upd, za, zaa, List.cons_append, List.nil_append]
  obtain ⟨us, p⟩ := x
  obtain ⟨hul, hp, hrd⟩ := hx
  dsimp only at hul hp hrd ⊢
  refine zaf ?_
  refine zad ?_
  refine zab rfl rfl rfl (op_lss rfl (ev1 rfl) (ev1 rfl)) ?_
  refine zae ?_
  refine zaf ?_
  refine dwp_cond rfl (fun c1 => ?_) (fun c1 => ?_)
  · try simp only [yg, ya, beq_iff_eq, bne_iff_ne, yb, yc, yf, ye, yh, yi, yd, ne_eq, yj, Int.not_lt, Int.not_le] at c1
    have hlt : us.length < n := by omega
    refine dwp_skip ?_
    refine zaf ?_
    refine dwp_block ?_
    refine zaf ?_
    refine zad ?_
    refine zab rfl rfl rfl (zac (.inl rfl) (ev1 rfl)) ?_
    refine zab rfl rfl rfl (zac (.inr rfl) (ev1 rfl)) ?_
    refine zae ?_
    by_cases hz : zrB B p = true
    · refine zah 1 (by simp only [holes, List.cons_append, List.nil_append]; exact rfl) ?_
      refine zad ?_
      refine zab rfl rfl rfl (zac (.inl rfl) (ev1 rfl)) ?_
      refine zab rfl rfl rfl (zac (.inl rfl) (ev1 rfl)) ?_
      refine zab rfl rfl rfl (zac (.inl rfl) (ev1 rfl)) ?_
      refine walk_w rfl rfl rfl (zaj [1, 2] [] [] rfl (ev1 rfl) (ec (ev1 rfl) en) rfl rfl (there_k a b old us (by omega)) rfl rfl rfl rfl rfl rfl) (by simp only [upd, za, zaa]; exact rfl) ?_
      refine walk_w rfl rfl rfl (zaj [0, 3] [] [4] rfl (ev1 rfl) (ec (ev1 rfl) en) rfl rfl (next_z B hB w h us (by omega) hi ((thereK old) us) p hp (zrB_iff.1 hz)) rfl rfl rfl rfl rfl rfl) (by simp only [upd, za, zaa]; exact rfl) ?_
      refine zae ?_
      refine zad ?_
      refine zab rfl rfl rfl (op_add' rfl (ev1 rfl) (ev1 rfl) (fun _ => IntWalk.i64_in _ (by omega))) ?_
      refine zab rfl rfl rfl (zac (.inl rfl) (ev1 rfl)) ?_
      refine zae ?_
      refine ⟨(us ++ [(thereK old) us], p + 1), [0, 1, 2, 4], ⟨by rw [List.length_append]; exact hlt, (zrB_iff.1 hz).1, by rw [List.length_append]; exact rdNs_z (n := n - us.length) (by omega) hz hrd⟩, by simp only [List.length_append, List.length_cons, List.length_nil]; omega, rfl, ⟨by rw [List.length_append]; rfl, rfl, rfl, rfl, trivial⟩, ⟨rfl, rfl, rfl, rfl, trivial⟩⟩
    · by_cases hno : ∀ l q, rdN B p = some (l, q) → padT l = (thereK old) us
      · refine zad ?_
        refine zab rfl rfl rfl (zac (.inl rfl) (ev1 rfl)) ?_
        refine zab rfl rfl rfl (zac (.inl rfl) (ev1 rfl)) ?_
        refine zab rfl rfl rfl (zac (.inl rfl) (ev1 rfl)) ?_
        refine walk_w rfl rfl rfl (zaj [1, 2] [] [] rfl (ev1 rfl) (ec (ev1 rfl) en) rfl rfl (there_k a b old us (by omega)) rfl rfl rfl rfl rfl rfl) (by simp only [upd, za, zaa]; exact rfl) ?_
        refine walk_p rfl (dop_callP [0, 3] [] [] rfl (ev1 rfl) (ec (ev1 rfl) en) rfl rfl ((next_n B hB w h us (by omega) hi ((thereK old) us) p hp (fun e => hz (zrB_iff.2 e)) hno).dead) rfl rfl rfl rfl rfl rfl) rfl ?_
        refine kpanL (Mo := [_, _, _]) [0, 1, 2] rfl rfl ?_ ⟨rfl, rfl, rfl, trivial⟩ rfl
        rfl
      · obtain ⟨l, q1, hl0, hne⟩ : ∃ l q, rdN B p = some (l, q) ∧ padT l ≠ (thereK old) us := by simpa using hno
        refine zah 1 (by simp only [holes, List.cons_append, List.nil_append]; exact rfl) ?_
        refine zad ?_
        refine zab rfl rfl rfl (zac (.inl rfl) (ev1 rfl)) ?_
        refine zab rfl rfl rfl (zac (.inl rfl) (ev1 rfl)) ?_
        refine zab rfl rfl rfl (zac (.inl rfl) (ev1 rfl)) ?_
        refine walk_w rfl rfl rfl (zaj [1, 2] [] [] rfl (ev1 rfl) (ec (ev1 rfl) en) rfl rfl (there_k a b old us (by omega)) rfl rfl rfl rfl rfl rfl) (by simp only [upd, za, zaa]; exact rfl) ?_
        refine walk_w rfl rfl rfl (zaj [0, 3] [] [4] rfl (ev1 rfl) (ec (ev1 rfl) en) rfl rfl (next_t B hB w h us (by omega) hi ((thereK old) us) p hp (fun e => hz (zrB_iff.2 e)) l q1 hl0 hne) rfl rfl rfl rfl rfl rfl) (by simp only [upd, za, zaa]; exact rfl) ?_
        refine zae ?_
        refine zad ?_
        refine zab rfl rfl rfl (op_add' rfl (ev1 rfl) (ev1 rfl) (fun _ => IntWalk.i64_in _ (by omega))) ?_
        refine zab rfl rfl rfl (zac (.inl rfl) (ev1 rfl)) ?_
        refine zae ?_
        refine ⟨(us ++ [padT l], q1), [0, 1, 2, 4], ⟨by rw [List.length_append]; exact hlt, (rdN_le hl0).1, by rw [List.length_append]; exact rdNs_t (n := n - us.length) (by omega) hz hl0 hne hrd⟩, by simp only [List.length_append, List.length_cons, List.length_nil]; omega, rfl, ⟨by rw [List.length_append]; rfl, rfl, rfl, rfl, trivial⟩, ⟨rfl, rfl, rfl, rfl, trivial⟩⟩
  · have c2 : ¬ ((us.length : Int) < w * h) := by simpa using c1
    have e0 : n - us.length = 0 := by omega
    rw [e0] at hrd
    exact absurd (show some (us, p) = none from hrd) (fun e => by cases e)
end Go.Proofs.Ytcbfnbfhlofkiaa
namespace Go.Proofs.Ytcbfnbfhlofkiaa
set_option maxRecDepth 4000
set_option linter.unusedVariables false
set_option linter.unusedSimpArgs false
open Go.RowKit
attribute [local irreducible] padT rdP rdN mayG rdNs
set_option maxRecDepth 4000 in
set_option maxHeartbeats 1000000 in
theorem ap1_idle (w h : Int) (us : List TL) (n e : Int) : DDef Try.prog 48 [.loc 0 0, .loc 1 0, .loc 2 0] [.mix 41 [.val (.int .i64 w), .val (.int .i64 h), .arr 3], .flat 3 [.int .i64 n], .flat 33 [.int .i64 e], .arr 29 256 (us).length ((us).flatMap tc)] none none [.mix 41 [.val (.int .i64 w), .val (.int .i64 h), .arr 3], .flat 3 [.int .i64 n], .flat 33 [.int .i64 e], .arr 29 256 (us).length ((us).flatMap tc)] := by
  refine ddef_go (dr := .tup []) (t := 3) (N := 6) 4 (by kernel_rfl) Try.func48 rfl rfl rfl (by simp only [fr0, Nat.zero_add, Nat.reduceAdd]; exact rfl) rfl rfl rfl rfl rfl fun s0 hs0 => ?_
  refine zab rfl rfl rfl (zaj [] [] [] rfl (ev1 rfl) (ec (ev1 rfl) en) rfl rfl (failed_no) rfl rfl rfl rfl rfl rfl) ?_
  refine zae ?_
  refine dwp_if_f rfl (rfl) ?_
  refine dwp_skip ?_
  refine kend [0, 1, 2, 3] (res_none rfl) rfl rfl ?_ ⟨rfl, rfl, rfl, rfl, trivial⟩
  rfl
set_option maxRecDepth 4000 in
set_option maxHeartbeats 1000000 in
theorem ap1_caught (n e : Int) : DDef Try.prog 48 [.loc 0 0, .loc 1 0, .loc 2 0] [.flat 41 [.int .i64 0, .int .i64 0, .slice none 0 0], .flat 3 [.int .i64 n], .flat 33 [.int .i64 e]] (some (.ifc 86 (.val (.agg #[])))) none [.flat 41 [.int .i64 0, .int .i64 0, .slice none 0 0], .flat 3 [.int .i64 0], .flat 33 [.int .i64 200]] := by
  refine ddef_go (dr := .tup []) (t := 3) (N := 6) 3 (by kernel_rfl) Try.func48 rfl rfl rfl (by simp only [fr0, Nat.zero_add, Nat.reduceAdd]; exact rfl) rfl rfl rfl rfl rfl fun s0 hs0 => ?_
  refine zab rfl rfl rfl (zaj [] [] [] rfl (ev1 rfl) (ec (ev1 rfl) en) rfl rfl (failed_y) rfl rfl rfl rfl rfl rfl) ?_
  refine zae ?_
  refine dwp_if_t rfl (rfl) ?_
  refine zad ?_
  refine zab rfl rfl rfl (op_build0 rfl fl41 zr41) ?_
  refine walk_s rfl rfl (op_stwa rfl tb41 (ev1 rfl) (ev1 rfl) rfl rfl rfl rfl) (by simp only [upd, za, zaa]; exact rfl) ?_
  refine walk_s rfl rfl (op_stwi rfl tb3 (ev1 rfl) (ev1 rfl) rfl) (by simp only [upd, za, zaa]; exact rfl) ?_
  refine walk_s rfl rfl (op_stwi rfl tb33 (ev1 rfl) (ev1 rfl) rfl) (by simp only [upd, za, zaa]; exact rfl) ?_
  refine zae ?_
  refine kend [0, 1, 2] (res_none rfl) rfl rfl ?_ ⟨rfl, rfl, rfl, trivial⟩
  rfl
set_option maxRecDepth 4000 in
set_option maxHeartbeats 1000000 in
theorem rdc_n1 (B : List Int) (hB : B.length ≤ 4000000000000000000) (hi : isB B) (h2 : ¬ 0 + 2 ≤ B.length) : DFun Try.prog 23 [.slf 1 (B).length ((B).flatMap u8V)] [] (.tup [.val (.agg #[.int .i64 0, .int .i64 0, .slice none 0 0]), .val (.int .i64 0), .val (.int .i64 200)]) [] := by
  refine dcalls_body (N := 17) 0 (by kernel_rfl) Try.func23 rfl rfl rfl (by simp only [fr0, Nat.zero_add, Nat.reduceAdd]; exact rfl) rfl fun s0 hs0 => ?_
  refine dbody_seq rfl hs0 ?_
  refine zah 3 (by simp only [holes, List.cons_append, List.nil_append]; exact rfl) ?_
  refine zad ?_
  refine walk_w rfl rfl rfl (op_alloc 0 rfl zr41 rfl) (by simp only [upd, za, zaa]; exact rfl) ?_
  refine walk_w rfl rfl rfl (op_alloc 1 rfl zr3 rfl) (by simp only [upd, za, zaa]; exact rfl) ?_
  refine walk_w rfl rfl rfl (op_alloc 2 rfl zr33 rfl) (by simp only [upd, za, zaa]; exact rfl) ?_
  refine zae ?_
  refine dbody_defer (l0 := [_]) rfl rfl rfl rfl rfl hs0 ?_
  refine zab rfl rfl rfl (op_mkf rfl en (ec (ev1 rfl) (ec (ev1 rfl) (ec (ev1 rfl) en)))) ?_
  refine zae ⟨_, _, _, 3, ev1 rfl, Nat.le_trans hs0 (by decide), rfl, ?_⟩
  have hs1 : s0.M.length ≤ 3 := Nat.le_trans hs0 (by decide)
  refine dbody_end rfl hs0 ?_
  refine zaf ?_
  refine zah 1 (by simp only [holes, List.cons_append, List.nil_append]; exact rfl) ?_
  refine zad ?_
  refine zab rfl rfl rfl (zac (.inl rfl) (ev1 rfl)) ?_
  refine zab rfl rfl rfl (op_bldD (ps := [(1, .tmp 7)]) rfl fl71 zr71 (ec (ev1 rfl) en) rfl rfl rfl) ?_
  refine walk_w rfl rfl rfl (op_alloc 3 rfl zr71 rfl) (by simp only [upd, za, zaa]; exact rfl) ?_
  refine walk_s rfl rfl (op_stam rfl tb71 (ev1 rfl) (ev1 rfl) rfl rfl rfl rfl) (by simp only [upd, za, zaa]; exact rfl) ?_
  refine zae ?_
  refine zaf ?_
  refine zad ?_
  refine walk_p rfl (dop_callP [3] [] [] rfl (ev1 rfl) (ec (ev1 rfl) en) rfl rfl ((sizes_n1 B hB hi h2).dead) rfl rfl rfl rfl rfl rfl) rfl ?_
  refine kdef (dturn_caught [0, 1, 2] [] rfl rfl rfl (rc1_caught _ _) rfl rfl rfl rfl rfl) ?_
  refine kend0 (rs3 rfl (rv_w tb41 rfl rfl rfl) (rv_1 tb3 rfl rfl rfl) (rv_1 tb33 rfl rfl rfl)) rfl ?_
  rfl
set_option maxRecDepth 4000 in
set_option maxHeartbeats 1000000 in
theorem rdc_n2 (B : List Int) (hB : B.length ≤ 4000000000000000000) (hi : isB B) (h2 : 0 + 2 ≤ B.length) (hm : mayS (bAt B 0) (bAt B 1) = false) : DFun Try.prog 23 [.slf 1 (B).length ((B).flatMap u8V)] [] (.tup [.val (.agg #[.int .i64 0, .int .i64 0, .slice none 0 0]), .val (.int .i64 0), .val (.int .i64 200)]) [] := by
  refine dcalls_body (N := 17) 0 (by kernel_rfl) Try.func23 rfl rfl rfl (by simp only [fr0, Nat.zero_add, Nat.reduceAdd]; exact rfl) rfl fun s0 hs0 => ?_
  refine dbody_seq rfl hs0 ?_
  refine zah 3 (by simp only [holes, List.cons_append, List.nil_append]; exact rfl) ?_
  refine zad ?_
  refine walk_w rfl rfl rfl (op_alloc 0 rfl zr41 rfl) (by simp only [upd, za, zaa]; exact rfl) ?_
  refine walk_w rfl rfl rfl (op_alloc 1 rfl zr3 rfl) (by simp only [upd, za, zaa]; exact rfl) ?_
  refine walk_w rfl rfl rfl (op_alloc 2 rfl zr33 rfl) (by simp only [upd, za, zaa]; exact rfl) ?_
  refine zae ?_
  refine dbody_defer (l0 := [_]) rfl rfl rfl rfl rfl hs0 ?_
  refine zab rfl rfl rfl (op_mkf rfl en (ec (ev1 rfl) (ec (ev1 rfl) (ec (ev1 rfl) en)))) ?_
  refine zae ⟨_, _, _, 3, ev1 rfl, Nat.le_trans hs0 (by decide), rfl, ?_⟩
  have hs1 : s0.M.length ≤ 3 := Nat.le_trans hs0 (by decide)
  refine dbody_end rfl hs0 ?_
  refine zaf ?_
  refine zah 1 (by simp only [holes, List.cons_append, List.nil_append]; exact rfl) ?_
  refine zad ?_
  refine zab rfl rfl rfl (zac (.inl rfl) (ev1 rfl)) ?_
  refine zab rfl rfl rfl (op_bldD (ps := [(1, .tmp 7)]) rfl fl71 zr71 (ec (ev1 rfl) en) rfl rfl rfl) ?_
  refine walk_w rfl rfl rfl (op_alloc 3 rfl zr71 rfl) (by simp only [upd, za, zaa]; exact rfl) ?_
  refine walk_s rfl rfl (op_stam rfl tb71 (ev1 rfl) (ev1 rfl) rfl rfl rfl rfl) (by simp only [upd, za, zaa]; exact rfl) ?_
  refine zae ?_
  refine zaf ?_
  refine zad ?_
  refine walk_p rfl (dop_callP [3] [] [] rfl (ev1 rfl) (ec (ev1 rfl) en) rfl rfl ((sizes_n2 B hB hi h2 hm).dead) rfl rfl rfl rfl rfl rfl) rfl ?_
  refine kdef (dturn_caught [0, 1, 2] [] rfl rfl rfl (rc1_caught _ _) rfl rfl rfl rfl rfl) ?_
  refine kend0 (rs3 rfl (rv_w tb41 rfl rfl rfl) (rv_1 tb3 rfl rfl rfl) (rv_1 tb33 rfl rfl rfl)) rfl ?_
  rfl
theorem right_len {w h : Int} {ts : List TL} {n : Nat} (hr : rightB w h ts = true) (hn : w * h = (n : Int)) : n ≤ ts.length := by
  unfold rightB at hr
  rw [Bool.and_eq_true] at hr
  have := of_decide_eq_true hr.2
  omega
set_option maxRecDepth 4000 in
set_option maxHeartbeats 1000000 in
theorem apl_bad (B : List Int) (hB : B.length ≤ 4000000000000000000) (hi : isB B) (a b : Int) (old : List TL) (hr : rightB a b old = false) : DFun Try.prog 26 [.agg [.val (.int .i64 a), .val (.int .i64 b), .slf 256 old.length (old.flatMap tc)], .slf 1 (B).length ((B).flatMap u8V)] [] (.tup [.val (.agg #[.int .i64 0, .int .i64 0, .slice none 0 0]), .val (.int .i64 0), .val (.int .i64 150)]) [] := by
  refine dcalls_body (N := 41) 0 (by kernel_rfl) Try.func26 rfl rfl rfl (by simp only [fr0, Nat.zero_add, Nat.reduceAdd]; exact rfl) rfl fun s0 hs0 => ?_
  refine dbody_seq rfl hs0 ?_
  refine zah 4 (by simp only [holes, List.cons_append, List.nil_append]; exact rfl) ?_
  refine zad ?_
  refine walk_w rfl rfl rfl (op_boxam 0 rfl (ev1 rfl) rfl) (by simp only [upd, za, zaa]; exact rfl) ?_
  refine walk_w rfl rfl rfl (op_alloc 1 rfl zr41 rfl) (by simp only [upd, za, zaa]; exact rfl) ?_
  refine walk_w rfl rfl rfl (op_alloc 2 rfl zr3 rfl) (by simp only [upd, za, zaa]; exact rfl) ?_
  refine walk_w rfl rfl rfl (op_alloc 3 rfl zr33 rfl) (by simp only [upd, za, zaa]; exact rfl) ?_
  refine zae ?_
  refine dbody_seq rfl hs0 ?_
  refine zaf ?_
  refine zad ?_
  refine zab rfl rfl rfl (op_ldmw rfl tb41 (ev1 rfl) rfl rfl) ?_
  refine zab rfl rfl rfl (zaj [] [] [] rfl (ev1 rfl) (ec (ev1 rfl) en) rfl rfl (ccheck_d a b old) rfl rfl rfl rfl rfl rfl) ?_
  refine zab rfl rfl rfl (zac (.inr rfl) (ev1 rfl)) ?_
  refine zae ?_
  refine zaf ?_
  refine zad ?_
  refine zab rfl rfl rfl (zac (.inl rfl) (ev1 rfl)) ?_
  refine zab rfl rfl rfl (op_neq rfl (ev1 rfl) (ev1 rfl)) ?_
  refine zae ?_
  refine dwp_if_t rfl (by rw [hr]; rfl) ?_
  refine zaf ?_
  refine zad ?_
  refine zab rfl rfl rfl (op_build0 rfl fl41 zr41) ?_
  refine zab rfl rfl rfl (zac (.inl rfl) (ev1 rfl)) ?_
  refine walk_s rfl rfl (op_stwa rfl tb41 (ev1 rfl) (ev1 rfl) rfl rfl rfl rfl) (by simp only [upd, za, zaa]; exact rfl) ?_
  refine walk_s rfl rfl (op_stwi rfl tb3 (ev1 rfl) (ev1 rfl) rfl) (by simp only [upd, za, zaa]; exact rfl) ?_
  refine walk_s rfl rfl (op_stwi rfl tb33 (ev1 rfl) (ev1 rfl) rfl) (by simp only [upd, za, zaa]; exact rfl) ?_
  refine zae ?_
  refine dwp_ret ?_
  refine kend0 (rs3 rfl (rv_w tb41 rfl rfl rfl) (rv_1 tb3 rfl rfl rfl) (rv_1 tb33 rfl rfl rfl)) rfl ?_
  rw [hr]; rfl
set_option maxRecDepth 4000 in
set_option maxHeartbeats 1000000 in
theorem apl_n1 (B : List Int) (hB : B.length ≤ 4000000000000000000) (hi : isB B) (a b : Int) (old : List TL) (hr : rightB a b old = true) (h2 : ¬ 0 + 2 ≤ B.length) : DFun Try.prog 26 [.agg [.val (.int .i64 a), .val (.int .i64 b), .slf 256 old.length (old.flatMap tc)], .slf 1 (B).length ((B).flatMap u8V)] [] (.tup [.val (.agg #[.int .i64 0, .int .i64 0, .slice none 0 0]), .val (.int .i64 0), .val (.int .i64 200)]) [] := by
  refine dcalls_body (N := 41) 0 (by kernel_rfl) Try.func26 rfl rfl rfl (by simp only [fr0, Nat.zero_add, Nat.reduceAdd]; exact rfl) rfl fun s0 hs0 => ?_
  refine dbody_seq rfl hs0 ?_
  refine zah 4 (by simp only [holes, List.cons_append, List.nil_append]; exact rfl) ?_
  refine zad ?_
  refine walk_w rfl rfl rfl (op_boxam 0 rfl (ev1 rfl) rfl) (by simp only [upd, za, zaa]; exact rfl) ?_
  refine walk_w rfl rfl rfl (op_alloc 1 rfl zr41 rfl) (by simp only [upd, za, zaa]; exact rfl) ?_
  refine walk_w rfl rfl rfl (op_alloc 2 rfl zr3 rfl) (by simp only [upd, za, zaa]; exact rfl) ?_
  refine walk_w rfl rfl rfl (op_alloc 3 rfl zr33 rfl) (by simp only [upd, za, zaa]; exact rfl) ?_
  refine zae ?_
  refine dbody_seq rfl hs0 ?_
  refine zaf ?_
  refine zad ?_
  refine zab rfl rfl rfl (op_ldmw rfl tb41 (ev1 rfl) rfl rfl) ?_
  refine zab rfl rfl rfl (zaj [] [] [] rfl (ev1 rfl) (ec (ev1 rfl) en) rfl rfl (ccheck_d a b old) rfl rfl rfl rfl rfl rfl) ?_
  refine zab rfl rfl rfl (zac (.inr rfl) (ev1 rfl)) ?_
  refine zae ?_
  refine zaf ?_
  refine zad ?_
  refine zab rfl rfl rfl (zac (.inl rfl) (ev1 rfl)) ?_
  refine zab rfl rfl rfl (op_neq rfl (ev1 rfl) (ev1 rfl)) ?_
  refine zae ?_
  refine dwp_if_f rfl (by rw [hr]; rfl) ?_
  refine dwp_skip ?_
  refine dbody_defer (l0 := [_]) rfl rfl rfl rfl rfl hs0 ?_
  refine zab rfl rfl rfl (op_mkf rfl en (ec (ev1 rfl) (ec (ev1 rfl) (ec (ev1 rfl) en)))) ?_
  refine zae ⟨_, _, _, 4, ev1 rfl, Nat.le_trans hs0 (by decide), rfl, ?_⟩
  have hs1 : s0.M.length ≤ 4 := Nat.le_trans hs0 (by decide)
  refine dbody_end rfl hs0 ?_
  refine zaf ?_
  refine zah 1 (by simp only [holes, List.cons_append, List.nil_append]; exact rfl) ?_
  refine zad ?_
  refine zab rfl rfl rfl (zac (.inl rfl) (ev1 rfl)) ?_
  refine zab rfl rfl rfl (op_bldD (ps := [(1, .tmp 16)]) rfl fl71 zr71 (ec (ev1 rfl) en) rfl rfl rfl) ?_
  refine walk_w rfl rfl rfl (op_alloc 4 rfl zr71 rfl) (by simp only [upd, za, zaa]; exact rfl) ?_
  refine walk_s rfl rfl (op_stam rfl tb71 (ev1 rfl) (ev1 rfl) rfl rfl rfl rfl) (by simp only [upd, za, zaa]; exact rfl) ?_
  refine zae ?_
  refine zaf ?_
  refine zad ?_
  refine walk_p rfl (dop_callP [4] [] [] rfl (ev1 rfl) (ec (ev1 rfl) en) rfl rfl ((sizes_n1 B hB hi h2).dead) rfl rfl rfl rfl rfl rfl) rfl ?_
  refine kdef (dturn_caught [1, 2, 3] [] rfl rfl rfl (ap1_caught _ _) rfl rfl rfl rfl rfl) ?_
  refine kend0 (rs3 rfl (rv_w tb41 rfl rfl rfl) (rv_1 tb3 rfl rfl rfl) (rv_1 tb33 rfl rfl rfl)) rfl ?_
  rfl
set_option maxRecDepth 4000 in
set_option maxHeartbeats 1000000 in
theorem apl_n2 (B : List Int) (hB : B.length ≤ 4000000000000000000) (hi : isB B) (a b : Int) (old : List TL) (hr : rightB a b old = true) (h2 : 0 + 2 ≤ B.length) (hm : mayS (bAt B 0) (bAt B 1) = false) : DFun Try.prog 26 [.agg [.val (.int .i64 a), .val (.int .i64 b), .slf 256 old.length (old.flatMap tc)], .slf 1 (B).length ((B).flatMap u8V)] [] (.tup [.val (.agg #[.int .i64 0, .int .i64 0, .slice none 0 0]), .val (.int .i64 0), .val (.int .i64 200)]) [] := by
  refine dcalls_body (N := 41) 0 (by kernel_rfl) Try.func26 rfl rfl rfl (by simp only [fr0, Nat.zero_add, Nat.reduceAdd]; exact rfl) rfl fun s0 hs0 => ?_
  refine dbody_seq rfl hs0 ?_
  refine zah 4 (by simp only [holes, List.cons_append, List.nil_append]; exact rfl) ?_
  refine zad ?_
  refine walk_w rfl rfl rfl (op_boxam 0 rfl (ev1 rfl) rfl) (by simp only [upd, za, zaa]; exact rfl) ?_
  refine walk_w rfl rfl rfl (op_alloc 1 rfl zr41 rfl) (by simp only [upd, za, zaa]; exact rfl) ?_
  refine walk_w rfl rfl rfl (op_alloc 2 rfl zr3 rfl) (by simp only [upd, za, zaa]; exact rfl) ?_
  refine walk_w rfl rfl rfl (op_alloc 3 rfl zr33 rfl) (by simp only [upd, za, zaa]; exact rfl) ?_
  refine zae ?_
  refine dbody_seq rfl hs0 ?_
  refine zaf ?_
  refine zad ?_
  refine zab rfl rfl rfl (op_ldmw rfl tb41 (ev1 rfl) rfl rfl) ?_
  refine zab rfl rfl rfl (zaj [] [] [] rfl (ev1 rfl) (ec (ev1 rfl) en) rfl rfl (ccheck_d a b old) rfl rfl rfl rfl rfl rfl) ?_
  refine zab rfl rfl rfl (zac (.inr rfl) (ev1 rfl)) ?_
  refine zae ?_
  refine zaf ?_
  refine zad ?_
  refine zab rfl rfl rfl (zac (.inl rfl) (ev1 rfl)) ?_
  refine zab rfl rfl rfl (op_neq rfl (ev1 rfl) (ev1 rfl)) ?_
  refine zae ?_
  refine dwp_if_f rfl (by rw [hr]; rfl) ?_
  refine dwp_skip ?_
  refine dbody_defer (l0 := [_]) rfl rfl rfl rfl rfl hs0 ?_
  refine zab rfl rfl rfl (op_mkf rfl en (ec (ev1 rfl) (ec (ev1 rfl) (ec (ev1 rfl) en)))) ?_
  refine zae ⟨_, _, _, 4, ev1 rfl, Nat.le_trans hs0 (by decide), rfl, ?_⟩
  have hs1 : s0.M.length ≤ 4 := Nat.le_trans hs0 (by decide)
  refine dbody_end rfl hs0 ?_
  refine zaf ?_
  refine zah 1 (by simp only [holes, List.cons_append, List.nil_append]; exact rfl) ?_
  refine zad ?_
  refine zab rfl rfl rfl (zac (.inl rfl) (ev1 rfl)) ?_
  refine zab rfl rfl rfl (op_bldD (ps := [(1, .tmp 16)]) rfl fl71 zr71 (ec (ev1 rfl) en) rfl rfl rfl) ?_
  refine walk_w rfl rfl rfl (op_alloc 4 rfl zr71 rfl) (by simp only [upd, za, zaa]; exact rfl) ?_
  refine walk_s rfl rfl (op_stam rfl tb71 (ev1 rfl) (ev1 rfl) rfl rfl rfl rfl) (by simp only [upd, za, zaa]; exact rfl) ?_
  refine zae ?_
  refine zaf ?_
  refine zad ?_
  refine walk_p rfl (dop_callP [4] [] [] rfl (ev1 rfl) (ec (ev1 rfl) en) rfl rfl ((sizes_n2 B hB hi h2 hm).dead) rfl rfl rfl rfl rfl rfl) rfl ?_
  refine kdef (dturn_caught [1, 2, 3] [] rfl rfl rfl (ap1_caught _ _) rfl rfl rfl rfl rfl) ?_
  refine kend0 (rs3 rfl (rv_w tb41 rfl rfl rfl) (rv_1 tb3 rfl rfl rfl) (rv_1 tb33 rfl rfl rfl)) rfl ?_
  rfl
set_option maxRecDepth 4000 in
set_option maxHeartbeats 1000000 in
theorem apl_n3 (B : List Int) (hB : B.length ≤ 4000000000000000000) (hi : isB B) (a b : Int) (old : List TL) (hr : rightB a b old = true) (n : Nat) (h2 : 0 + 2 ≤ B.length) (hm : mayS (bAt B 0) (bAt B 1) = true) (hn : bAt B 0 * bAt B 1 = (n : Int)) (hw : ¬ (bAt B 0 = a ∧ bAt B 1 = b)) : DFun Try.prog 26 [.agg [.val (.int .i64 a), .val (.int .i64 b), .slf 256 old.length (old.flatMap tc)], .slf 1 (B).length ((B).flatMap u8V)] [] (.tup [.val (.agg #[.int .i64 0, .int .i64 0, .slice none 0 0]), .val (.int .i64 0), .val (.int .i64 200)]) [] := by
  refine dcalls_body (N := 41) 0 (by kernel_rfl) Try.func26 rfl rfl rfl (by simp only [fr0, Nat.zero_add, Nat.reduceAdd]; exact rfl) rfl fun s0 hs0 => ?_
  refine dbody_seq rfl hs0 ?_
  refine zah 4 (by simp only [holes, List.cons_append, List.nil_append]; exact rfl) ?_
  refine zad ?_
  refine walk_w rfl rfl rfl (op_boxam 0 rfl (ev1 rfl) rfl) (by simp only [upd, za, zaa]; exact rfl) ?_
  refine walk_w rfl rfl rfl (op_alloc 1 rfl zr41 rfl) (by simp only [upd, za, zaa]; exact rfl) ?_
  refine walk_w rfl rfl rfl (op_alloc 2 rfl zr3 rfl) (by simp only [upd, za, zaa]; exact rfl) ?_
  refine walk_w rfl rfl rfl (op_alloc 3 rfl zr33 rfl) (by simp only [upd, za, zaa]; exact rfl) ?_
  refine zae ?_
  refine dbody_seq rfl hs0 ?_
  refine zaf ?_
  refine zad ?_
  refine zab rfl rfl rfl (op_ldmw rfl tb41 (ev1 rfl) rfl rfl) ?_
  refine zab rfl rfl rfl (zaj [] [] [] rfl (ev1 rfl) (ec (ev1 rfl) en) rfl rfl (ccheck_d a b old) rfl rfl rfl rfl rfl rfl) ?_
  refine zab rfl rfl rfl (zac (.inr rfl) (ev1 rfl)) ?_
  refine zae ?_
  refine zaf ?_
  refine zad ?_
  refine zab rfl rfl rfl (zac (.inl rfl) (ev1 rfl)) ?_
  refine zab rfl rfl rfl (op_neq rfl (ev1 rfl) (ev1 rfl)) ?_
  refine zae ?_
  refine dwp_if_f rfl (by rw [hr]; rfl) ?_
  refine dwp_skip ?_
  refine dbody_defer (l0 := [_]) rfl rfl rfl rfl rfl hs0 ?_
  refine zab rfl rfl rfl (op_mkf rfl en (ec (ev1 rfl) (ec (ev1 rfl) (ec (ev1 rfl) en)))) ?_
  refine zae ⟨_, _, _, 4, ev1 rfl, Nat.le_trans hs0 (by decide), rfl, ?_⟩
  have hs1 : s0.M.length ≤ 4 := Nat.le_trans hs0 (by decide)
  refine dbody_end rfl hs0 ?_
  refine zaf ?_
  refine zah 1 (by simp only [holes, List.cons_append, List.nil_append]; exact rfl) ?_
  refine zad ?_
  refine zab rfl rfl rfl (zac (.inl rfl) (ev1 rfl)) ?_
  refine zab rfl rfl rfl (op_bldD (ps := [(1, .tmp 16)]) rfl fl71 zr71 (ec (ev1 rfl) en) rfl rfl rfl) ?_
  refine walk_w rfl rfl rfl (op_alloc 4 rfl zr71 rfl) (by simp only [upd, za, zaa]; exact rfl) ?_
  refine walk_s rfl rfl (op_stam rfl tb71 (ev1 rfl) (ev1 rfl) rfl rfl rfl rfl) (by simp only [upd, za, zaa]; exact rfl) ?_
  refine zae ?_
  refine zaf ?_
  refine zad ?_
  refine walk_w rfl rfl rfl (zaj [4] [] [] rfl (ev1 rfl) (ec (ev1 rfl) en) rfl rfl (sizes_ok B hB hi n h2 hm hn) rfl rfl rfl rfl rfl rfl) (by simp only [upd, za, zaa]; exact rfl) ?_
  refine zae ?_
  refine zaf ?_
  refine zaf ?_
  refine zad ?_
  refine zab rfl rfl rfl (op_fa rfl fo71_0 (ev1 rfl)) ?_
  refine zab rfl rfl rfl (op_fa rfl fo41_0 (ev1 rfl)) ?_
  refine zab rfl rfl rfl (op_ldm rfl tb3 (ev1 rfl) rfl rfl) ?_
  refine zab rfl rfl rfl (op_fa rfl fo41_0 (ev1 rfl)) ?_
  refine zab rfl rfl rfl (op_ldm rfl tb3 (ev1 rfl) rfl rfl) ?_
  refine zab rfl rfl rfl (op_neq rfl (ev1 rfl) (ev1 rfl)) ?_
  refine zab rfl rfl rfl (zac (.inl rfl) (ev1 rfl)) ?_
  refine zai (gd_f rfl rfl rfl) rfl rfl rfl (op_fa rfl fo71_0 (ev1 rfl)) ?_
  refine zai (gd_f rfl rfl rfl) rfl rfl rfl (op_fa rfl fo41_1 (ev2 rfl)) ?_
  refine zai (gd_f rfl rfl rfl) rfl rfl rfl (op_ldm rfl tb3 (ev2 rfl) rfl rfl) ?_
  refine zai (gd_f rfl rfl rfl) rfl rfl rfl (op_fa rfl fo41_1 (ev1 rfl)) ?_
  refine zai (gd_f rfl rfl rfl) rfl rfl rfl (op_ldm rfl tb3 (ev2 rfl) rfl rfl) ?_
  refine zai (gd_f rfl rfl rfl) rfl rfl rfl (op_neq rfl (ev2 rfl) (ev2 rfl)) ?_
  refine zab rfl rfl rfl (op_or rfl (ev1 rfl) (ev3 rfl id)) ?_
  refine zae ?_
  refine dwp_if_t rfl (by simp; omega) ?_
  refine zad ?_
  refine zab rfl rfl rfl (op_build0 rfl fl86 zr86) ?_
  refine zab rfl rfl rfl (op_mi rfl ni86 (ev1 rfl)) ?_
  refine walk_p rfl (op_pan rfl (ev1 rfl)) rfl ?_
  refine kdef (dturn_caught [1, 2, 3] [] rfl rfl rfl (ap1_caught _ _) rfl rfl rfl rfl rfl) ?_
  refine kend0 (rs3 rfl (rv_w tb41 rfl rfl rfl) (rv_1 tb3 rfl rfl rfl) (rv_1 tb33 rfl rfl rfl)) rfl ?_
  rfl
set_option maxRecDepth 4000 in
set_option maxHeartbeats 1000000 in
theorem apl_y (B : List Int) (hB : B.length ≤ 4000000000000000000) (hi : isB B) (a b : Int) (old : List TL) (hr : rightB a b old = true) (hw : bAt B 0 = a ∧ bAt B 1 = b) (n : Nat) (hn : a * b = (n : Int)) (h2 : 0 + 2 ≤ B.length) (ts : List TL) (q : Nat) (h0 : rdNs (thereK old) B n [] 2 = some (ts, q)) : DFun Try.prog 26 [.agg [.val (.int .i64 a), .val (.int .i64 b), .slf 256 old.length (old.flatMap tc)], .slf 1 (B).length ((B).flatMap u8V)] [] (.tup [.agg [.val (.int .i64 (bAt B 0)), .val (.int .i64 (bAt B 1)), .arr 0], .val (.int .i64 (q : Nat)), .val (.int .i64 0)]) [.arr 29 256 (ts).length ((ts).flatMap tc)] := by
  obtain ⟨hw1, hw2⟩ := hw
  have hm : mayS (bAt B 0) (bAt B 1) = true := by rw [hw1, hw2]; exact right_may hr
  have hn : bAt B 0 * bAt B 1 = (n : Int) := by rw [hw1, hw2]; exact hn
  have ho : n ≤ old.length := right_len hr (by rw [← hw1, ← hw2]; exact hn)
  refine dcalls_body (N := 41) 0 (by kernel_rfl) Try.func26 rfl rfl rfl (by simp only [fr0, Nat.zero_add, Nat.reduceAdd]; exact rfl) rfl fun s0 hs0 => ?_
  refine dbody_seq rfl hs0 ?_
  refine zah 4 (by simp only [holes, List.cons_append, List.nil_append]; exact rfl) ?_
  refine zad ?_
  refine walk_w rfl rfl rfl (op_boxam 0 rfl (ev1 rfl) rfl) (by simp only [upd, za, zaa]; exact rfl) ?_
  refine walk_w rfl rfl rfl (op_alloc 1 rfl zr41 rfl) (by simp only [upd, za, zaa]; exact rfl) ?_
  refine walk_w rfl rfl rfl (op_alloc 2 rfl zr3 rfl) (by simp only [upd, za, zaa]; exact rfl) ?_
  refine walk_w rfl rfl rfl (op_alloc 3 rfl zr33 rfl) (by simp only [upd, za, zaa]; exact rfl) ?_
  refine zae ?_
  refine dbody_seq rfl hs0 ?_
  refine zaf ?_
  refine zad ?_
  refine zab rfl rfl rfl (op_ldmw rfl tb41 (ev1 rfl) rfl rfl) ?_
  refine zab rfl rfl rfl (zaj [] [] [] rfl (ev1 rfl) (ec (ev1 rfl) en) rfl rfl (ccheck_d a b old) rfl rfl rfl rfl rfl rfl) ?_
  refine zab rfl rfl rfl (zac (.inr rfl) (ev1 rfl)) ?_
  refine zae ?_
  refine zaf ?_
  refine zad ?_
  refine zab rfl rfl rfl (zac (.inl rfl) (ev1 rfl)) ?_
  refine zab rfl rfl rfl (op_neq rfl (ev1 rfl) (ev1 rfl)) ?_
  refine zae ?_
  refine dwp_if_f rfl (by rw [hr]; rfl) ?_
  refine dwp_skip ?_
  refine dbody_defer (l0 := [_]) rfl rfl rfl rfl rfl hs0 ?_
  refine zab rfl rfl rfl (op_mkf rfl en (ec (ev1 rfl) (ec (ev1 rfl) (ec (ev1 rfl) en)))) ?_
  refine zae ⟨_, _, _, 4, ev1 rfl, Nat.le_trans hs0 (by decide), rfl, ?_⟩
  have hs1 : s0.M.length ≤ 4 := Nat.le_trans hs0 (by decide)
  refine dbody_end rfl hs0 ?_
  refine zaf ?_
  refine zah 1 (by simp only [holes, List.cons_append, List.nil_append]; exact rfl) ?_
  refine zad ?_
  refine zab rfl rfl rfl (zac (.inl rfl) (ev1 rfl)) ?_
  refine zab rfl rfl rfl (op_bldD (ps := [(1, .tmp 16)]) rfl fl71 zr71 (ec (ev1 rfl) en) rfl rfl rfl) ?_
  refine walk_w rfl rfl rfl (op_alloc 4 rfl zr71 rfl) (by simp only [upd, za, zaa]; exact rfl) ?_
  refine walk_s rfl rfl (op_stam rfl tb71 (ev1 rfl) (ev1 rfl) rfl rfl rfl rfl) (by simp only [upd, za, zaa]; exact rfl) ?_
  refine zae ?_
  refine zaf ?_
  refine zad ?_
  refine walk_w rfl rfl rfl (zaj [4] [] [] rfl (ev1 rfl) (ec (ev1 rfl) en) rfl rfl (sizes_ok B hB hi n h2 hm hn) rfl rfl rfl rfl rfl rfl) (by simp only [upd, za, zaa]; exact rfl) ?_
  refine zae ?_
  refine zaf ?_
  refine zaf ?_
  refine zad ?_
  refine zab rfl rfl rfl (op_fa rfl fo71_0 (ev1 rfl)) ?_
  refine zab rfl rfl rfl (op_fa rfl fo41_0 (ev1 rfl)) ?_
  refine zab rfl rfl rfl (op_ldm rfl tb3 (ev1 rfl) rfl rfl) ?_
  refine zab rfl rfl rfl (op_fa rfl fo41_0 (ev1 rfl)) ?_
  refine zab rfl rfl rfl (op_ldm rfl tb3 (ev1 rfl) rfl rfl) ?_
  refine zab rfl rfl rfl (op_neq rfl (ev1 rfl) (ev1 rfl)) ?_
  refine zab rfl rfl rfl (zac (.inl rfl) (ev1 rfl)) ?_
  refine zai (gd_f rfl rfl rfl) rfl rfl rfl (op_fa rfl fo71_0 (ev1 rfl)) ?_
  refine zai (gd_f rfl rfl rfl) rfl rfl rfl (op_fa rfl fo41_1 (ev2 rfl)) ?_
  refine zai (gd_f rfl rfl rfl) rfl rfl rfl (op_ldm rfl tb3 (ev2 rfl) rfl rfl) ?_
  refine zai (gd_f rfl rfl rfl) rfl rfl rfl (op_fa rfl fo41_1 (ev1 rfl)) ?_
  refine zai (gd_f rfl rfl rfl) rfl rfl rfl (op_ldm rfl tb3 (ev2 rfl) rfl rfl) ?_
  refine zai (gd_f rfl rfl rfl) rfl rfl rfl (op_neq rfl (ev2 rfl) (ev2 rfl)) ?_
  refine zab rfl rfl rfl (op_or rfl (ev1 rfl) (ev3 rfl id)) ?_
  refine zae ?_
  refine dwp_if_f rfl (by simp; omega) ?_
  refine dwp_skip ?_
  refine zaf ?_
  refine zah 2 (by simp only [holes, List.cons_append, List.nil_append]; exact rfl) ?_
  refine zad ?_
  refine walk_w rfl rfl rfl (zaj [0] [] [5] rfl (ev1 rfl) (ec (ev1 rfl) en) rfl rfl (there_f a b old) rfl rfl rfl rfl rfl rfl) (by simp only [upd, za, zaa]; exact rfl) ?_
  refine walk_w rfl rfl rfl (zaj [4, 5, 0] [] [6] rfl (ev1 rfl) (ec (ev1 rfl) (ec (ev1 rfl) en)) rfl rfl (tiles_t B hB hi (bAt B 0) (bAt B 1) n hm hn 2 h2 a b old ho ts q h0) rfl rfl rfl rfl rfl rfl) (by simp only [upd, za, zaa]; exact rfl) ?_
  refine zae ?_
  refine zaf ?_
  refine dwp_draw [([], []), ([4], []), ([], []), ([4], []), ([1], [1]), ([2], [2]), ([3], [3])] mixed (by kernel_rfl) ?_
  refine zag rfl rfl (op_fa rfl fo71_0 (ev1 rfl)) ?_
  refine zag rfl rfl (op_ldmp rfl tb41 (ev1 rfl) rfl rfl rfl) ?_
  refine zag rfl rfl (op_fa rfl fo71_2 (ev1 rfl)) ?_
  refine zag rfl rfl (op_ldm rfl tb3 (ev1 rfl) rfl rfl) ?_
  refine lex_s rfl rfl (op_stam rfl tb41 (ev1 rfl) (ev1 rfl) rfl rfl rfl rfl) rfl (by simp only [upd, za, zaa]; exact rfl) ?_
  refine lex_s rfl rfl (op_stwi rfl tb3 (ev1 rfl) (ev1 rfl) rfl) rfl (by simp only [upd, za, zaa]; exact rfl) ?_
  refine lex_s rfl rfl (op_stwi rfl tb33 (ev1 rfl) (ev1 rfl) rfl) rfl (by simp only [upd, za, zaa]; exact rfl) ?_
  refine lex_nil ?_
  refine dwp_ret ?_
  refine kdef (dturn_idle [1, 2, 3, 6] [] rfl rfl (ap1_idle _ _ _ _ _) rfl rfl rfl rfl rfl) ?_
  refine kend [6] (rs3 rfl (rv_mw tb41 rfl rfl rfl) (rv_1 tb3 rfl rfl rfl) (rv_1 tb33 rfl rfl rfl)) rfl rfl ?_ ⟨rfl, trivial⟩
  rfl
set_option maxRecDepth 4000 in
set_option maxHeartbeats 1000000 in
theorem apl_n4 (B : List Int) (hB : B.length ≤ 4000000000000000000) (hi : isB B) (a b : Int) (old : List TL) (hr : rightB a b old = true) (hw : bAt B 0 = a ∧ bAt B 1 = b) (n : Nat) (hn : a * b = (n : Int)) (h2 : 0 + 2 ≤ B.length) (h0 : rdNs (thereK old) B n [] 2 = none) : DFun Try.prog 26 [.agg [.val (.int .i64 a), .val (.int .i64 b), .slf 256 old.length (old.flatMap tc)], .slf 1 (B).length ((B).flatMap u8V)] [] (.tup [.val (.agg #[.int .i64 0, .int .i64 0, .slice none 0 0]), .val (.int .i64 0), .val (.int .i64 200)]) [] := by
  obtain ⟨hw1, hw2⟩ := hw
  have hm : mayS (bAt B 0) (bAt B 1) = true := by rw [hw1, hw2]; exact right_may hr
  have hn : bAt B 0 * bAt B 1 = (n : Int) := by rw [hw1, hw2]; exact hn
  have ho : n ≤ old.length := right_len hr (by rw [← hw1, ← hw2]; exact hn)
  refine dcalls_body (N := 41) 0 (by kernel_rfl) Try.func26 rfl rfl rfl (by simp only [fr0, Nat.zero_add, Nat.reduceAdd]; exact rfl) rfl fun s0 hs0 => ?_
  refine dbody_seq rfl hs0 ?_
  refine zah 4 (by simp only [holes, List.cons_append, List.nil_append]; exact rfl) ?_
  refine zad ?_
  refine walk_w rfl rfl rfl (op_boxam 0 rfl (ev1 rfl) rfl) (by simp only [upd, za, zaa]; exact rfl) ?_
  refine walk_w rfl rfl rfl (op_alloc 1 rfl zr41 rfl) (by simp only [upd, za, zaa]; exact rfl) ?_
  refine walk_w rfl rfl rfl (op_alloc 2 rfl zr3 rfl) (by simp only [upd, za, zaa]; exact rfl) ?_
  refine walk_w rfl rfl rfl (op_alloc 3 rfl zr33 rfl) (by simp only [upd, za, zaa]; exact rfl) ?_
  refine zae ?_
  refine dbody_seq rfl hs0 ?_
  refine zaf ?_
  refine zad ?_
  refine zab rfl rfl rfl (op_ldmw rfl tb41 (ev1 rfl) rfl rfl) ?_
  refine zab rfl rfl rfl (zaj [] [] [] rfl (ev1 rfl) (ec (ev1 rfl) en) rfl rfl (ccheck_d a b old) rfl rfl rfl rfl rfl rfl) ?_
  refine zab rfl rfl rfl (zac (.inr rfl) (ev1 rfl)) ?_
  refine zae ?_
  refine zaf ?_
  refine zad ?_
  refine zab rfl rfl rfl (zac (.inl rfl) (ev1 rfl)) ?_
  refine zab rfl rfl rfl (op_neq rfl (ev1 rfl) (ev1 rfl)) ?_
  refine zae ?_
  refine dwp_if_f rfl (by rw [hr]; rfl) ?_
  refine dwp_skip ?_
  refine dbody_defer (l0 := [_]) rfl rfl rfl rfl rfl hs0 ?_
  refine zab rfl rfl rfl (op_mkf rfl en (ec (ev1 rfl) (ec (ev1 rfl) (ec (ev1 rfl) en)))) ?_
  refine zae ⟨_, _, _, 4, ev1 rfl, Nat.le_trans hs0 (by decide), rfl, ?_⟩
  have hs1 : s0.M.length ≤ 4 := Nat.le_trans hs0 (by decide)
  refine dbody_end rfl hs0 ?_
  refine zaf ?_
  refine zah 1 (by simp only [holes, List.cons_append, List.nil_append]; exact rfl) ?_
  refine zad ?_
  refine zab rfl rfl rfl (zac (.inl rfl) (ev1 rfl)) ?_
  refine zab rfl rfl rfl (op_bldD (ps := [(1, .tmp 16)]) rfl fl71 zr71 (ec (ev1 rfl) en) rfl rfl rfl) ?_
  refine walk_w rfl rfl rfl (op_alloc 4 rfl zr71 rfl) (by simp only [upd, za, zaa]; exact rfl) ?_
  refine walk_s rfl rfl (op_stam rfl tb71 (ev1 rfl) (ev1 rfl) rfl rfl rfl rfl) (by simp only [upd, za, zaa]; exact rfl) ?_
  refine zae ?_
  refine zaf ?_
  refine zad ?_
  refine walk_w rfl rfl rfl (zaj [4] [] [] rfl (ev1 rfl) (ec (ev1 rfl) en) rfl rfl (sizes_ok B hB hi n h2 hm hn) rfl rfl rfl rfl rfl rfl) (by simp only [upd, za, zaa]; exact rfl) ?_
  refine zae ?_
  refine zaf ?_
  refine zaf ?_
  refine zad ?_
  refine zab rfl rfl rfl (op_fa rfl fo71_0 (ev1 rfl)) ?_
  refine zab rfl rfl rfl (op_fa rfl fo41_0 (ev1 rfl)) ?_
  refine zab rfl rfl rfl (op_ldm rfl tb3 (ev1 rfl) rfl rfl) ?_
  refine zab rfl rfl rfl (op_fa rfl fo41_0 (ev1 rfl)) ?_
  refine zab rfl rfl rfl (op_ldm rfl tb3 (ev1 rfl) rfl rfl) ?_
  refine zab rfl rfl rfl (op_neq rfl (ev1 rfl) (ev1 rfl)) ?_
  refine zab rfl rfl rfl (zac (.inl rfl) (ev1 rfl)) ?_
  refine zai (gd_f rfl rfl rfl) rfl rfl rfl (op_fa rfl fo71_0 (ev1 rfl)) ?_
  refine zai (gd_f rfl rfl rfl) rfl rfl rfl (op_fa rfl fo41_1 (ev2 rfl)) ?_
  refine zai (gd_f rfl rfl rfl) rfl rfl rfl (op_ldm rfl tb3 (ev2 rfl) rfl rfl) ?_
  refine zai (gd_f rfl rfl rfl) rfl rfl rfl (op_fa rfl fo41_1 (ev1 rfl)) ?_
  refine zai (gd_f rfl rfl rfl) rfl rfl rfl (op_ldm rfl tb3 (ev2 rfl) rfl rfl) ?_
  refine zai (gd_f rfl rfl rfl) rfl rfl rfl (op_neq rfl (ev2 rfl) (ev2 rfl)) ?_
  refine zab rfl rfl rfl (op_or rfl (ev1 rfl) (ev3 rfl id)) ?_
  refine zae ?_
  refine dwp_if_f rfl (by simp; omega) ?_
  refine dwp_skip ?_
  refine zaf ?_
  refine zah 1 (by simp only [holes, List.cons_append, List.nil_append]; exact rfl) ?_
  refine zad ?_
  refine walk_w rfl rfl rfl (zaj [0] [] [5] rfl (ev1 rfl) (ec (ev1 rfl) en) rfl rfl (there_f a b old) rfl rfl rfl rfl rfl rfl) (by simp only [upd, za, zaa]; exact rfl) ?_
  refine walk_p rfl (dop_callP [4, 5, 0] [] [] rfl (ev1 rfl) (ec (ev1 rfl) (ec (ev1 rfl) en)) rfl rfl ((tiles_tn B hB hi (bAt B 0) (bAt B 1) n hm hn 2 h2 a b old ho h0).dead) rfl rfl rfl rfl rfl rfl) rfl ?_
  refine kdef (dturn_caught [1, 2, 3] [] rfl rfl rfl (ap1_caught _ _) rfl rfl rfl rfl rfl) ?_
  refine kend0 (rs3 rfl (rv_w tb41 rfl rfl rfl) (rv_1 tb3 rfl rfl rfl) (rv_1 tb33 rfl rfl rfl)) rfl ?_
  rfl
end Go.Proofs.Ytcbfnbfhlofkiaa
namespace Go.Proofs.Ytcbfnbfhlofkiaa
set_option maxRecDepth 4000
set_option linter.unusedVariables false
set_option linter.unusedSimpArgs false
open Go.RowKit
attribute [local irreducible] runG bytesG posG tileB tilesB
set_option maxRecDepth 4000 in
set_option maxHeartbeats 1000000 in
theorem cnv_n (a b : Int) (old : List TL) (hr : rightB a b old = false) : DFun Try.prog 19 [.agg [.val (.int .i64 a), .val (.int .i64 b), .slf 256 old.length (old.flatMap tc)]] [] (.tup [.val (.slice none 0 0), .val (.int .i64 150)]) [] := by
  refine dcalls_go (N := 13) 0 (by kernel_rfl) Try.func19 rfl rfl rfl (by simp only [fr0, Nat.zero_add, Nat.reduceAdd]; exact rfl) rfl fun s0 hs0 => ?_
  refine zaf ?_
  refine zah 1 (by simp only [holes, List.cons_append, List.nil_append]; exact rfl) ?_
  refine zad ?_
  refine walk_w rfl rfl rfl (op_boxam 0 rfl (ev1 rfl) rfl) (by simp only [upd, za, zaa]; exact rfl) ?_
  refine zab rfl rfl rfl (zac (.inr rfl) (ev1 rfl)) ?_
  refine zab rfl rfl rfl (zac (.inr rfl) (ev1 rfl)) ?_
  refine zae ?_
  refine zaf ?_
  refine zaf ?_
  refine zad ?_
  refine zab rfl rfl rfl (op_ldmw rfl tb41 (ev1 rfl) rfl rfl) ?_
  refine zab rfl rfl rfl (zaj [] [] [] rfl (ev1 rfl) (ec (ev1 rfl) en) rfl rfl (ccheck_d a b old) rfl rfl rfl rfl rfl rfl) ?_
  refine zab rfl rfl rfl (zac (.inr rfl) (ev1 rfl)) ?_
  refine zae ?_
  refine zaf ?_
  refine zad ?_
  refine zab rfl rfl rfl (zac (.inl rfl) (ev1 rfl)) ?_
  refine zab rfl rfl rfl (op_neq rfl (ev1 rfl) (ev1 rfl)) ?_
  refine zae ?_
  refine dwp_if_t rfl (by rw [hr]; rfl) ?_
  refine zaf ?_
  refine zad ?_
  refine zab rfl rfl rfl (zac (.inl rfl) (ev1 rfl)) ?_
  refine zab rfl rfl rfl (zac (.inr rfl) (ev1 rfl)) ?_
  refine zab rfl rfl rfl (zac (.inr rfl) (ev1 rfl)) ?_
  refine zae ?_
  refine dwp_ret ?_
  refine kend0 (rs2 rfl (rv_t rfl) (rv_t rfl)) rfl ?_
  rw [hr]; rfl
set_option maxRecDepth 4000 in
set_option maxHeartbeats 1000000 in
theorem ptc_n (a b : Int) (old : List TL) (w h : Int) (us : List TL) (hr : (rightB a b old && rightB w h us) = false) : DFun Try.prog 20 [.agg [.val (.int .i64 a), .val (.int .i64 b), .slf 256 old.length (old.flatMap tc)], .agg [.val (.int .i64 w), .val (.int .i64 h), .slf 256 us.length (us.flatMap tc)]] [] (.tup [.val (.slice none 0 0), .val (.int .i64 150)]) [] := by
  refine dcalls_go (N := 30) 0 (by kernel_rfl) Try.func20 rfl rfl rfl (by simp only [fr0, Nat.zero_add, Nat.reduceAdd]; exact rfl) rfl fun s0 hs0 => ?_
  refine zaf ?_
  refine zah 2 (by simp only [holes, List.cons_append, List.nil_append]; exact rfl) ?_
  refine zad ?_
  refine walk_w rfl rfl rfl (op_boxam 0 rfl (ev1 rfl) rfl) (by simp only [upd, za, zaa]; exact rfl) ?_
  refine walk_w rfl rfl rfl (op_boxam 1 rfl (ev1 rfl) rfl) (by simp only [upd, za, zaa]; exact rfl) ?_
  refine zab rfl rfl rfl (zac (.inr rfl) (ev1 rfl)) ?_
  refine zab rfl rfl rfl (zac (.inr rfl) (ev1 rfl)) ?_
  refine zae ?_
  refine zaf ?_
  refine zaf ?_
  refine dwp_draw [([0], []), ([], []), ([1], []), ([], []), ([], []), ([], [])] mixed (by kernel_rfl) ?_
  refine zag rfl rfl (op_ldmw rfl tb41 (ev1 rfl) rfl rfl) ?_
  refine zag rfl rfl (zaj [] [] [] rfl (ev1 rfl) (ec (ev1 rfl) en) rfl rfl (ccheck_d a b old) rfl rfl rfl rfl rfl rfl) ?_
  refine zag rfl rfl (op_ldmw rfl tb41 (ev1 rfl) rfl rfl) ?_
  refine zag rfl rfl (zaj [] [] [] rfl (ev1 rfl) (ec (ev1 rfl) en) rfl rfl (ccheck_d w h us) rfl rfl rfl rfl rfl rfl) ?_
  refine zag rfl rfl (op_max rfl (ev1 rfl) (ev1 rfl)) ?_
  refine zag rfl rfl (zac (.inr rfl) (ev1 rfl)) ?_
  refine lex_nil ?_
  refine zaf ?_
  refine zad ?_
  refine zab rfl rfl rfl (zac (.inl rfl) (ev1 rfl)) ?_
  refine zab rfl rfl rfl (op_neq rfl (ev1 rfl) (ev1 rfl)) ?_
  refine zae ?_
  refine dwp_if_t rfl (by
  cases h1 : rightB a b old <;> cases h2 : rightB w h us <;> first | rfl | (simp [h1, h2] at hr)) ?_
  refine zaf ?_
  refine zad ?_
  refine zab rfl rfl rfl (zac (.inl rfl) (ev1 rfl)) ?_
  refine zab rfl rfl rfl (zac (.inr rfl) (ev1 rfl)) ?_
  refine zab rfl rfl rfl (zac (.inr rfl) (ev1 rfl)) ?_
  refine zae ?_
  refine dwp_ret ?_
  refine kend0 (rs2 rfl (rv_t rfl) (rv_t rfl)) rfl ?_
  cases h1 : rightB a b old <;> cases h2 : rightB w h us <;> first | rfl | (simp [h1, h2] at hr)
set_option maxRecDepth 4000 in
set_option maxHeartbeats 1000000 in
theorem ptc_s (a b : Int) (old : List TL) (w h : Int) (us : List TL) (hr : rightB a b old = true) (hr2 : rightB w h us = true) (hs : ¬ (a = w ∧ b = h)) : DFun Try.prog 20 [.agg [.val (.int .i64 a), .val (.int .i64 b), .slf 256 old.length (old.flatMap tc)], .agg [.val (.int .i64 w), .val (.int .i64 h), .slf 256 us.length (us.flatMap tc)]] [] (.tup [.val (.slice none 0 0), .val (.int .i64 2)]) [] := by
  refine dcalls_go (N := 30) 0 (by kernel_rfl) Try.func20 rfl rfl rfl (by simp only [fr0, Nat.zero_add, Nat.reduceAdd]; exact rfl) rfl fun s0 hs0 => ?_
  refine zaf ?_
  refine zah 2 (by simp only [holes, List.cons_append, List.nil_append]; exact rfl) ?_
  refine zad ?_
  refine walk_w rfl rfl rfl (op_boxam 0 rfl (ev1 rfl) rfl) (by simp only [upd, za, zaa]; exact rfl) ?_
  refine walk_w rfl rfl rfl (op_boxam 1 rfl (ev1 rfl) rfl) (by simp only [upd, za, zaa]; exact rfl) ?_
  refine zab rfl rfl rfl (zac (.inr rfl) (ev1 rfl)) ?_
  refine zab rfl rfl rfl (zac (.inr rfl) (ev1 rfl)) ?_
  refine zae ?_
  refine zaf ?_
  refine zaf ?_
  refine dwp_draw [([0], []), ([], []), ([1], []), ([], []), ([], []), ([], [])] mixed (by kernel_rfl) ?_
  refine zag rfl rfl (op_ldmw rfl tb41 (ev1 rfl) rfl rfl) ?_
  refine zag rfl rfl (zaj [] [] [] rfl (ev1 rfl) (ec (ev1 rfl) en) rfl rfl (ccheck_d a b old) rfl rfl rfl rfl rfl rfl) ?_
  refine zag rfl rfl (op_ldmw rfl tb41 (ev1 rfl) rfl rfl) ?_
  refine zag rfl rfl (zaj [] [] [] rfl (ev1 rfl) (ec (ev1 rfl) en) rfl rfl (ccheck_d w h us) rfl rfl rfl rfl rfl rfl) ?_
  refine zag rfl rfl (op_max rfl (ev1 rfl) (ev1 rfl)) ?_
  refine zag rfl rfl (zac (.inr rfl) (ev1 rfl)) ?_
  refine lex_nil ?_
  refine zaf ?_
  refine zad ?_
  refine zab rfl rfl rfl (zac (.inl rfl) (ev1 rfl)) ?_
  refine zab rfl rfl rfl (op_neq rfl (ev1 rfl) (ev1 rfl)) ?_
  refine zae ?_
  refine dwp_if_f rfl (by rw [hr, hr2]; rfl) ?_
  refine dwp_skip ?_
  refine zaf ?_
  refine zaf ?_
  refine zad ?_
  refine zab rfl rfl rfl (op_fa rfl fo41_0 (ev1 rfl)) ?_
  refine zab rfl rfl rfl (op_ldm rfl tb3 (ev1 rfl) rfl rfl) ?_
  refine zab rfl rfl rfl (op_fa rfl fo41_0 (ev1 rfl)) ?_
  refine zab rfl rfl rfl (op_ldm rfl tb3 (ev1 rfl) rfl rfl) ?_
  refine zab rfl rfl rfl (op_neq rfl (ev1 rfl) (ev1 rfl)) ?_
  refine zab rfl rfl rfl (zac (.inl rfl) (ev1 rfl)) ?_
  refine zai (gd_f rfl rfl rfl) rfl rfl rfl (op_fa rfl fo41_1 (ev1 rfl)) ?_
  refine zai (gd_f rfl rfl rfl) rfl rfl rfl (op_ldm rfl tb3 (ev2 rfl) rfl rfl) ?_
  refine zai (gd_f rfl rfl rfl) rfl rfl rfl (op_fa rfl fo41_1 (ev1 rfl)) ?_
  refine zai (gd_f rfl rfl rfl) rfl rfl rfl (op_ldm rfl tb3 (ev2 rfl) rfl rfl) ?_
  refine zai (gd_f rfl rfl rfl) rfl rfl rfl (op_neq rfl (ev2 rfl) (ev2 rfl)) ?_
  refine zab rfl rfl rfl (op_or rfl (ev1 rfl) (ev3 rfl id)) ?_
  refine zae ?_
  refine dwp_if_t rfl (by simp; omega) ?_
  refine zaf ?_
  refine zad ?_
  refine zab rfl rfl rfl (zac (.inr rfl) (ev1 rfl)) ?_
  refine zab rfl rfl rfl (zac (.inr rfl) (ev1 rfl)) ?_
  refine zae ?_
  refine dwp_ret ?_
  refine kend0 (rs2 rfl (rv_t rfl) (rv_t rfl)) rfl ?_
  rfl
end Go.Proofs.Ytcbfnbfhlofkiaa
namespace Go.Proofs.Ytcbfnbfhlofkiaa
set_option maxRecDepth 4000
set_option linter.unusedVariables false
set_option linter.unusedSimpArgs false
open Go.RowKit
attribute [local irreducible] padT rdP rdN mayG rdNs runG bytesG posG tileB tilesB canvasB patchB
theorem cloneB_f (l : List Int) (h : l.length ≤ 1000000) : DFun Try.prog 13 [.slf 1 l.length (l.flatMap u8V)] [] (.slf 1 l.length (l.flatMap u8V)) [] := freeze (cloneB l h) rfl
set_option maxRecDepth 4000 in
set_option maxHeartbeats 1000000 in
theorem lown_d (a b : Int) (old : List TL)  : DFun Try.prog 17 [.agg [.val (.int .i64 a), .val (.int .i64 b), .slf 256 old.length (old.flatMap tc)]] [] (.agg [.val (.int .i64 a), .val (.int .i64 b), .slf 256 (old.take 17).length ((old.take 17).flatMap tc)]) [] := by
  refine dcalls_go (N := 16) 0 (by kernel_rfl) Try.func17 rfl rfl rfl (by simp only [fr0, Nat.zero_add, Nat.reduceAdd]; exact rfl) rfl fun s0 hs0 => ?_
  refine zaf ?_
  refine zah 2 (by simp only [holes, List.cons_append, List.nil_append]; exact rfl) ?_
  refine zad ?_
  refine walk_w rfl rfl rfl (op_boxam 0 rfl (ev1 rfl) rfl) (by simp only [upd, za, zaa]; exact rfl) ?_
  refine walk_w rfl rfl rfl (op_alloc 1 rfl zr41 rfl) (by simp only [upd, za, zaa]; exact rfl) ?_
  refine zae ?_
  refine zaf ?_
  refine dwp_draw [([], []), ([0], []), ([], []), ([0], []), ([], []), ([0], []), ([], []), ([0], []), ([], []), ([], []), ([], []), ([], []), ([], []), ([1], [1])] mixed (by kernel_rfl) ?_
  refine zag rfl rfl (op_fa rfl fo41_0 (ev1 rfl)) ?_
  refine zag rfl rfl (op_ldm rfl tb3 (ev1 rfl) rfl rfl) ?_
  refine zag rfl rfl (op_fa rfl fo41_1 (ev1 rfl)) ?_
  refine zag rfl rfl (op_ldm rfl tb3 (ev1 rfl) rfl rfl) ?_
  refine zag rfl rfl (op_fa rfl fo41_2 (ev1 rfl)) ?_
  refine zag rfl rfl (op_ldm rfl tb22 (ev1 rfl) rfl rfl) ?_
  refine zag rfl rfl (op_fa rfl fo41_2 (ev1 rfl)) ?_
  refine zag rfl rfl (op_ldm rfl tb22 (ev1 rfl) rfl rfl) ?_
  refine zag rfl rfl (op_len rfl sl22 (ev1 rfl)) ?_
  refine zag rfl rfl (op_min rfl (ev1 rfl) (ev1 rfl)) ?_
  refine zag rfl rfl (op_sltk (j := min old.length 17) rfl sl22 (ev1 rfl) (bd_some (ev1 rfl)) (fun _ => by omega) (fun _ => by omega) tc_len) ?_
  refine zag rfl rfl (zaj [] [] [] rfl (ev1 rfl) (ec (ev1 rfl) en) rfl rfl (cloneT_f (old.take (min old.length 17)) (by rw [List.length_take]; omega)) rfl rfl rfl rfl rfl rfl) ?_
  refine zag rfl rfl (op_bldD (ps := [(0, .tmp 4), (1, .tmp 6), (2, .tmp 14)]) rfl fl41 zr41 (ec (ev1 rfl) (ec (ev1 rfl) (ec (ev1 rfl) en))) rfl rfl rfl) ?_
  refine lex_s rfl rfl (op_stam rfl tb41 (ev1 rfl) (ev1 rfl) rfl rfl rfl rfl) rfl (by simp only [upd, za, zaa]; exact rfl) ?_
  refine lex_nil ?_
  refine dwp_ret ?_
  refine kend0 (rs1 rfl (rv_mw tb41 rfl rfl rfl)) rfl ?_
  rw [tk_min]
end Go.Proofs.Ytcbfnbfhlofkiaa
namespace Go.Proofs.Ytcbfnbfhlofkiaa
set_option maxRecDepth 4000
set_option linter.unusedVariables false
set_option linter.unusedSimpArgs false
open Go.RowKit
theorem rdN_bytes {B : List Int} {l : List C4} {q : Nat} (h : rdN B 0 = some (l, q)) : B = tileB (padT l) ++ B.drop q ∧ q = (tileB (padT l)).length ∧ q ≤ B.length ∧ (padT l).l = l := by
  have e := rdN_T (B := B) (p := 0) (Nat.zero_le _)
  rw [h, List.drop_zero] at e
  have hb : B = tileB (padT l) ++ B.drop q := rdT_iff.1 e
  obtain ⟨g1, _, g3⟩ := rdN_le h
  refine ⟨hb, ?_, g1, by rw [padT_full g3]⟩
  have := congrArg List.length hb
  rw [List.length_append, List.length_drop] at this
  omega
theorem rdN_tile (t : TL) (rest : List Int) : rdN (tileB t ++ rest) 0 = some (t.l, (tileB t).length) := by
  have e := rdN_T (B := tileB t ++ rest) (p := 0) (Nat.zero_le _)
  rw [List.drop_zero, rdT_iff.2 rfl] at e
  cases hx : rdN (tileB t ++ rest) 0 with
  | none => rw [hx] at e; cases e
  | some x =>
    obtain ⟨l, q⟩ := x
    rw [hx] at e
    obtain ⟨e1, e2⟩ := Prod.mk.inj (Option.some.inj e)
    obtain ⟨_, g2, _, g4⟩ := rdN_bytes hx
    rw [← g4, g2, ← e1]
theorem tileB_pos (t : TL) : 0 < (tileB t).length := by
  obtain ⟨n, _, bs, e⟩ := tileB_first t
  rw [e]; simp
theorem isB_take {a : List Int} (ha : isB a) (n : Nat) : isB (a.take n) := fun z hz => ha z (List.mem_of_mem_take hz)
set_option maxRecDepth 4000
def tsRng (ts : List TL) : Prop := ∀ t ∈ ts, ∀ c ∈ t.l, c.rng
theorem right_n {w h : Int} {ts : List TL} (hr : rightB w h ts = true) : w * h = (ts.length : Int) ∧ ts.length ≤ 16 ∧ mayS w h = true ∧ (1 ≤ w ∧ w ≤ 4) ∧ 1 ≤ h ∧ h ≤ 4 := by
  have hm := right_may hr
  have hb := mul_in hm
  have hc := mayS_b hm
  unfold rightB at hr
  rw [Bool.and_eq_true] at hr
  have := of_decide_eq_true hr.2
  exact ⟨by omega, by omega, hm, by omega, by omega⟩
set_option maxRecDepth 4000
open Go.ChangeShapes Go.WideShapes Go.ChangeAt Go.Joins Go.Deep
theorem fits_i64 : ∀ cs, fitsP [.int .i64] cs → ∃ a : Int, (-9223372036854775808 ≤ a ∧ a ≤ 9223372036854775807) ∧ cs = [.int .i64 a]
  | [c0], h => by
    obtain ⟨h0, _⟩ := h
    obtain ⟨a, w, rfl⟩ := fits_prim_i64 h0
    exact ⟨a, w, rfl⟩
  | [], h => by cases h
  | _ :: _ :: _, h => by obtain ⟨_, h⟩ := h; cases h
theorem opens_i64 {w : World} : Opens Try.prog w 3 (fun a : Int => [.val (.int .i64 a)]) (fun a => -9223372036854775808 ≤ a ∧ a ≤ 9223372036854775807) := opens_flat 1 (fun a : Int => [.int .i64 a]) _ fits_i64 (by kernel_rfl)
theorem opens_rowz {α : Type} {w : World} {t e : TypeId} {ps : List Prim} {sz : Nat} (f : Nat) (en : α → List Value) (ok : α → Prop) (hP : ∀ cs, fitsP ps cs → ∃ a, ok a ∧ cs = en a) (ht : Try.prog.underlying t = some (.slice e)) (hf : flatT Try.prog f e = some ps) (hz : ps.length = sz) (hc : Try.prog.cellsOf e = sz) (hpos : 0 < sz)
    (hen : ∀ a, (en a).length = sz) : Opens Try.prog w t (fun l : List α => [.slf sz l.length (l.flatMap en)]) (fun l => ∀ a ∈ l, ok a) := by
  subst hz
  exact opens_row f en ok hP ht hf hc hpos hen
abbrev kT : List Prim := (List.replicate 64 [.int .u8, .int .u8, .int .u8, .int .u8]).flatten
theorem kT_len : kT.length = 256 := by kernel_rfl
theorem opens_tls {w : World} : Opens Try.prog w 22 (fun l : List TL => [.slf 256 l.length (l.flatMap tc)]) (fun l => ∀ x ∈ l, ∀ c ∈ x.l, c.rng) :=
  opens_rowz 4 tc (fun t => ∀ c ∈ t.l, c.rng) fits_tl Try.underlying22 (show flatT Try.prog 4 29 = some kT by kernel_rfl) kT_len (by kernel_rfl) (by decide) tc_len
abbrev shL (a : Int × Int × List TL) : List D := [.val (.int .i64 a.1), .val (.int .i64 a.2.1), .slf 256 a.2.2.length (a.2.2.flatMap tc)]
theorem opens_cv {w : World} : Opens Try.prog w 41 shL (fun a => tsRng a.2.2) :=
  opens_map (fun a : Int × Int × List TL × Unit => (a.1, a.2.1, a.2.2.1)) (opens_struct Try.underlying41 (by kernel_rfl) (opensF_cons (k := 1) rfl (by kernel_rfl) opens_i64 (opensF_cons (k := 1) rfl (by kernel_rfl) opens_i64 (opensF_cons (k := 1) rfl (by kernel_rfl) opens_tls opensF_nil)))) (fun _ => rfl) (fun _ h => h.2.2.1)
theorem fits_u8V : ∀ cs, fitsP [.int .u8] cs → ∃ a : Int, (0 ≤ a ∧ a ≤ 255) ∧ cs = u8V a
  | [c0], h => by
    obtain ⟨h0, _⟩ := h
    obtain ⟨a, w, rfl⟩ := fits_u8 h0
    exact ⟨a, w, rfl⟩
  | [], h => by cases h
  | _ :: _ :: _, h => by obtain ⟨_, h⟩ := h; cases h
set_option maxRecDepth 4000
theorem tilesB_ge (kn : List TL → TL) : ∀ (ts acc : List TL), ts.length ≤ (tilesB kn acc ts).length
  | [], _ => by rw [tilesB_nil]; exact Nat.le_refl _
  | t :: ts, acc => by
    have h1 := tilesB_ge kn ts (acc ++ [t])
    have h2 := tileB_pos t
    rw [tilesB, List.length_append, List.length_cons]
    split
    · simp; omega
    · omega
theorem cnvB_len (a b : Int) (ts : List TL) : 2 + ts.length ≤ (canvasB a b ts).length ∧ (canvasB a b ts).length ≤ 2 + ts.length * 320 := by
  have h1 := tilesB_ge aheadK ts []
  have h2 := tilesB_len aheadK ts []
  have hl : (canvasB a b ts).length = (tilesB aheadK [] ts).length + 2 := rfl
  omega
theorem wk_zc : Wk (.tup [.val (.agg #[.int .i64 0, .int .i64 0, .slice none 0 0]), .val (.int .i64 0), .val (.int .i64 200)]) (.tup [.agg [.val (.int .i64 0), .val (.int .i64 0), .slf 256 0 []], .val (.int .i64 0), .val (.int .i64 200)]) := Wk.tup (.cons ((Wk.vagg _).trans (Wk.agg (.cons (.refl _) (.cons (.refl _) (.cons (Wk.slf0 256) .nil))))) (.cons (.refl _) (.cons (.refl _) .nil)))
def noCv (B : List Int) : Prop := ¬ (0 + 2 ≤ B.length ∧ mayS (bAt B 0) (bAt B 1) = true ∧ (rdNs aheadK B (bAt B 0 * bAt B 1).toNat [] 2).isSome = true)
theorem prod_n {w h : Int} (hm : mayS w h = true) : w * h = ((w * h).toNat : Int) ∧ (w * h).toNat ≤ 16 := by
  have := mul_in hm
  omega
theorem rdc_no (B : List Int) (hB : B.length ≤ 4000000000000000000) (hi : isB B) (hx : noCv B) : DFun Try.prog 23 [.slf 1 (B).length ((B).flatMap u8V)] [] (.tup [.val (.agg #[.int .i64 0, .int .i64 0, .slice none 0 0]), .val (.int .i64 0), .val (.int .i64 200)]) [] := by
  by_cases h2 : 0 + 2 ≤ B.length
  · cases hm : mayS (bAt B 0) (bAt B 1) with
    | false => exact rdc_n2 B hB hi h2 hm
    | true =>
      cases h0 : rdNs aheadK B (bAt B 0 * bAt B 1).toNat [] 2 with
      | none => exact rdc_n3 B hB hi _ h2 hm (prod_n hm).1 h0
      | some x => exact absurd ⟨h2, hm, by rw [h0]; rfl⟩ hx
  · exact rdc_n1 B hB hi h2
end Go.Proofs.Ytcbfnbfhlofkiaa
namespace Go.Proofs.Ytcbfnbfhlofkiaa
set_option maxRecDepth 4000
set_option linter.unusedVariables false
set_option linter.unusedSimpArgs false
open Go.RowKit
attribute [local irreducible] runG bytesG posG tileB tilesB
set_option maxRecDepth 4000 in
set_option maxHeartbeats 1000000 in
theorem rahead_d (a b : Int) (old : List TL) (k : Nat) (hk : k ≤ old.length) (hl : old.length ≤ 5000) : DFun Try.prog 43 [.agg [.val (.int .i64 a), .val (.int .i64 b), .slf 256 old.length (old.flatMap tc)], .val (.int .i64 (k : Int))] [] (.val (.agg (tc (aheadK (old.take k))).toArray)) [] := by
  refine dcalls_go (N := 14) 0 (by kernel_rfl) Try.func43 rfl rfl rfl (by simp only [fr0, Nat.zero_add, Nat.reduceAdd]; exact rfl) rfl fun s0 hs0 => ?_
  refine zaf ?_
  refine zah 2 (by simp only [holes, List.cons_append, List.nil_append]; exact rfl) ?_
  refine zad ?_
  refine walk_w rfl rfl rfl (op_boxam 0 rfl (ev1 rfl) rfl) (by simp only [upd, za, zaa]; exact rfl) ?_
  refine walk_w rfl rfl rfl (op_alloc 1 rfl zr29 rfl) (by simp only [upd, za, zaa]; exact rfl) ?_
  refine zae ?_
  refine zaf ?_
  refine zaf ?_
  refine zad ?_
  refine zab rfl rfl rfl (zac (.inl rfl) (ev1 rfl)) ?_
  refine zab rfl rfl rfl (op_eql rfl (ev1 rfl) (ev1 rfl)) ?_
  refine zae ?_
  refine dwp_cond rfl (fun c1 => ?_) (fun c1 => ?_)
  · try simp only [yg, ya, beq_iff_eq, bne_iff_ne, yb, yc, yf, ye, yh, yi, yd, ne_eq, yj, Int.not_lt, Int.not_le] at c1
    obtain rfl : k = 0 := by omega
    refine zaf ?_
    refine zad ?_
    refine zab rfl rfl rfl (op_build0a rfl ar29 zr29) ?_
    refine walk_s rfl rfl (op_stwa rfl tb29 (ev1 rfl) (ev1 rfl) rfl (tc_len _) (tc_oc _) ((tc_len _).trans (tc_len _).symm)) (by simp only [upd, za, zaa]; exact rfl) ?_
    refine zae ?_
    refine dwp_ret ?_
    refine kend0 (rs1 rfl (rv_w tb29 rfl rfl (tc_len _))) rfl ?_
    rfl
  · try simp only [yg, ya, beq_iff_eq, bne_iff_ne, yb, yc, yf, ye, yh, yi, yd, ne_eq, yj, Int.not_lt, Int.not_le] at c1
    refine dwp_skip ?_
    refine zaf ?_
    refine zad ?_
    refine zab rfl rfl rfl (op_fa rfl fo41_2 (ev1 rfl)) ?_
    refine zab rfl rfl rfl (op_ldm rfl tb22 (ev1 rfl) rfl rfl) ?_
    refine zab rfl rfl rfl (zac (.inl rfl) (ev1 rfl)) ?_
    refine zab rfl rfl rfl (op_sub' rfl (ev1 rfl) (ev1 rfl) (fun _ => IntWalk.i64_in _ (by omega))) ?_
    refine zab rfl rfl rfl (op_ixsr (j := k - 1) rfl sl22 (ev1 rfl) (ev1 rfl) tc_len (by decide) (by omega) (by omega)) ?_
    refine zab rfl rfl rfl (op_ldwd rfl tb29 (ev1 rfl) (tc_len _)) ?_
    refine walk_s rfl rfl (op_stwa rfl tb29 (ev1 rfl) (ev1 rfl) rfl (tc_len _) (tc_oc _) ((tc_len _).trans (tc_len _).symm)) (by simp only [upd, za, zaa]; exact rfl) ?_
    refine zae ?_
    refine dwp_ret ?_
    refine kend0 (rs1 rfl (rv_w tb29 rfl rfl (tc_len _))) rfl ?_
    rw [aheadK_tk (by omega) hk]
set_option maxRecDepth 4000 in
set_option maxHeartbeats 1000000 in
theorem rdoc_ao (a b : Int) (old : List TL) (hm : mayS a b = true) (hl : old.length ≤ 100) : DFun Try.prog 21 [.agg [.val (.int .i64 a), .val (.int .i64 b), .slf 256 old.length (old.flatMap tc)]] [] (.arr 0) [.arr 5 1 ((canvasB a b old)).length (((canvasB a b old)).flatMap u8V)] := by
  have hb := mayS_b hm
  refine dcalls_go (N := 35) 0 (by kernel_rfl) Try.func21 rfl rfl rfl (by simp only [fr0, Nat.zero_add, Nat.reduceAdd]; exact rfl) rfl fun s0 hs0 => ?_
  refine zaf ?_
  refine zah 1 (by simp only [holes, List.cons_append, List.nil_append]; exact rfl) ?_
  refine zad ?_
  refine walk_w rfl rfl rfl (op_boxam 0 rfl (ev1 rfl) rfl) (by simp only [upd, za, zaa]; exact rfl) ?_
  refine zab rfl rfl rfl (zac (.inr rfl) (ev1 rfl)) ?_
  refine zae ?_
  refine zaf ?_
  refine zah 1 (by simp only [holes, List.cons_append, List.nil_append]; exact rfl) ?_
  refine zad ?_
  refine zab rfl rfl rfl (op_fa rfl fo41_0 (ev1 rfl)) ?_
  refine zab rfl rfl rfl (op_ldm rfl tb3 (ev1 rfl) rfl rfl) ?_
  refine zab rfl rfl rfl (op_conv' ty3 kn5 rfl (ev1 rfl) (fun _ => IntWalk.u8_in _ (by omega))) ?_
  refine zab rfl rfl rfl (op_fa rfl fo41_1 (ev1 rfl)) ?_
  refine zab rfl rfl rfl (op_ldm rfl tb3 (ev1 rfl) rfl rfl) ?_
  refine zab rfl rfl rfl (op_conv' ty3 kn5 rfl (ev1 rfl) (fun _ => IntWalk.u8_in _ (by omega))) ?_
  refine walk_w rfl rfl rfl (op_bsa (ps := [(0, .tmp 8), (1, .tmp 11)]) 1 rfl sl23 zr5 rfl (vc (ev1 rfl) (vc (ev1 rfl) vn)) rfl (by decide) (by decide) rfl) (by simp only [upd, za, zaa]; exact rfl) ?_
  refine zab rfl rfl rfl (zac (.inr rfl) (ev1 rfl)) ?_
  refine zae ?_
  refine zaf ?_
  refine zaf ?_
  refine zad ?_
  refine zab rfl rfl rfl (op_fa rfl fo41_2 (ev1 rfl)) ?_
  refine zab rfl rfl rfl (op_ldm rfl tb22 (ev1 rfl) rfl rfl) ?_
  refine zab rfl rfl rfl (op_len rfl sl22 (ev1 rfl)) ?_
  refine zab rfl rfl rfl (zac (.inl rfl) (ev1 rfl)) ?_
  refine zae ?_
  refine dwp_block ?_
  refine dwp_loopS ⟨hs0, rfl⟩ (α := Nat) (fun k => [(16, .val (.int .i64 (k : Int)))]) [(1, _), (3, _), (14, _), (15, _)] (fun k => [(1, .arr 5 1 (([a, b] ++ tilesB aheadK [] (old.take (k)))).length ((([a, b] ++ tilesB aheadK [] (old.take (k)))).flatMap u8V))]) [_, .hole] (fun k => k ≤ old.length) (fun k => old.length - k) 0 [0, 1] (Nat.zero_le _) rfl ⟨rfl, rfl, rfl, rfl, trivial⟩ ⟨rfl, trivial⟩ ⟨rfl, by rw [List.take_zero, tilesB_nil]; rfl, trivial⟩ ?_
  intro k hx
  simp only [upd, za, zaa, List.cons_append, List.nil_append]
  have hk0 := hx
  have hbl := tilesB_len aheadK (old.take k) []
  rw [List.length_take] at hbl
  refine zaf ?_
  refine zad ?_
  refine zab rfl rfl rfl (op_lss rfl (ev1 rfl) (ev1 rfl)) ?_
  refine zae ?_
  refine zaf ?_
  refine dwp_cond rfl (fun c1 => ?_) (fun c1 => ?_)
  · try simp only [yg, ya, beq_iff_eq, bne_iff_ne, yb, yc, yf, ye, yh, yi, yd, ne_eq, yj, Int.not_lt, Int.not_le] at c1
    refine dwp_skip ?_
    refine zaf ?_
    refine dwp_block ?_
    refine zaf ?_
    have hk : k < old.length := by omega
    have hap : a :: b :: tilesB aheadK [] (old.take (k + 1)) = (a :: b :: tilesB aheadK [] (old.take k)) ++ stepK old[k] (aheadK (old.take k)) := by
      rw [tilesB_take _ hk]; rfl
    have htl := tileB_len old[k]
    refine zah 1 (by simp only [holes, List.cons_append, List.nil_append]; exact rfl) ?_
    refine zad ?_
    refine zab rfl rfl rfl (zac (.inl rfl) (ev1 rfl)) ?_
    refine zab rfl rfl rfl (op_ixsr (j := k) rfl sl22 (ev1 rfl) (ev1 rfl) tc_len (by decide) (by omega) (by omega)) ?_
    refine zab rfl rfl rfl (op_ldwd rfl tb29 (ev1 rfl) (tc_len _)) ?_
    refine walk_w rfl rfl rfl (op_alloc 2 rfl zr29 rfl) (by simp only [upd, za, zaa]; exact rfl) ?_
    refine zab rfl rfl rfl (zac (.inr rfl) (ev1 rfl)) ?_
    refine walk_s rfl rfl (op_stwa rfl tb29 (ev1 rfl) (ev1 rfl) rfl (tc_len _) (tc_oc _) ((tc_len _).trans (tc_len _).symm)) (by simp only [upd, za, zaa]; exact rfl) ?_
    refine zae ?_
    refine zaf ?_
    refine dwp_draw [([2], []), ([0], []), ([], []), ([], []), ([], [])] mixed (by kernel_rfl) ?_
    refine zag rfl rfl (op_ldw rfl tb29 (ev1 rfl) rfl (tc_len _)) ?_
    refine zag rfl rfl (op_ldmw rfl tb41 (ev1 rfl) rfl rfl) ?_
    refine zag rfl rfl (zac (.inl rfl) (ev1 rfl)) ?_
    refine zag rfl rfl (zaj [] [] [] rfl (ev1 rfl) (ec (ev1 rfl) (ec (ev1 rfl) en)) rfl rfl (rahead_d a b old k (by omega) (by omega)) rfl rfl rfl rfl rfl rfl) ?_
    refine zag rfl rfl (op_eqr eq29 rfl gd29 tb29 (ev1 rfl) (ev1 rfl)) ?_
    refine lex_nil ?_
    refine dwp_cond rfl (fun c1 => ?_) (fun c1 => ?_)
    · have c2 : old[k] = (aheadK (old.take k)) := by simpa using c1
      refine zah 2 (by simp only [holes, List.cons_append, List.nil_append]; exact rfl) ?_
      refine zad ?_
      refine zab rfl rfl rfl (zac (.inl rfl) (ev1 rfl)) ?_
      refine walk_w rfl rfl rfl (op_bsa (ps := [(0, .const (.int .u8 0))]) 3 rfl sl23 zr5 rfl (vc (ev1 rfl) vn) rfl (by decide) (by decide) rfl) (by simp only [upd, za, zaa]; exact rfl) ?_
      refine walk_w rfl rfl rfl (op_app (j := 4) rfl sl23 zr5 rfl (ev1 rfl) (ev1 rfl) (src_arr rfl) rfl rfl (fun _ => rfl) (fun _ => ⟨by simp only [List.length_append, List.length_cons, List.length_nil]; omega, by simp only [List.length_append, List.length_cons, List.length_nil]; omega⟩)) (by simp only [upd, za, zaa]; exact rfl) ?_
      refine zab rfl rfl rfl (zac (.inr rfl) (ev1 rfl)) ?_
      refine zae ?_
      refine zad ?_
      refine zab rfl rfl rfl (op_add' rfl (ev1 rfl) (ev1 rfl) (fun _ => IntWalk.i64_in _ (by omega))) ?_
      refine zab rfl rfl rfl (zac (.inl rfl) (ev1 rfl)) ?_
      refine zae ?_
      refine ⟨k + 1, [0, 4], by omega, by simp only []; omega, rfl, ⟨rfl, rfl, rfl, rfl, rfl, trivial⟩, ⟨rfl, arr_eq (by rw [hap]; unfold stepK; rw [if_pos c2, List.length_append]; rfl) (by rw [hap]; unfold stepK; rw [if_pos c2, ← ap_u8]; rfl), trivial⟩⟩
    · have c2 : old[k] ≠ (aheadK (old.take k)) := by simpa using c1
      refine zah 1 (by simp only [holes, List.cons_append, List.nil_append]; exact rfl) ?_
      refine zad ?_
      refine zab rfl rfl rfl (zac (.inl rfl) (ev1 rfl)) ?_
      refine zab rfl rfl rfl (op_ldw rfl tb29 (ev1 rfl) rfl (tc_len _)) ?_
      refine zab rfl rfl rfl (zaj [] [] [] rfl (ev1 rfl) (ec (ev1 rfl) en) rfl rfl (rdtile_d old[k]) rfl rfl rfl rfl rfl rfl) ?_
      refine walk_w rfl rfl rfl (op_app (j := 3) rfl sl23 zr5 rfl (ev1 rfl) (ev1 rfl) src_slf rfl rfl (fun _ => flat_oc (fun _ => rfl) _) (fun _ => ⟨by simp only [List.length_append, List.length_cons, List.length_nil]; omega, by simp only [List.length_append, List.length_cons, List.length_nil]; omega⟩)) (by simp only [upd, za, zaa]; exact rfl) ?_
      refine zab rfl rfl rfl (zac (.inr rfl) (ev1 rfl)) ?_
      refine zae ?_
      refine zad ?_
      refine zab rfl rfl rfl (op_add' rfl (ev1 rfl) (ev1 rfl) (fun _ => IntWalk.i64_in _ (by omega))) ?_
      refine zab rfl rfl rfl (zac (.inl rfl) (ev1 rfl)) ?_
      refine zae ?_
      refine ⟨k + 1, [0, 3], by omega, by simp only []; omega, rfl, ⟨rfl, rfl, rfl, rfl, rfl, trivial⟩, ⟨rfl, arr_eq (by rw [hap]; unfold stepK; rw [if_neg c2, List.length_append]) (by rw [hap]; unfold stepK; rw [if_neg c2, ← ap_u8]), trivial⟩⟩
  · try simp only [yg, ya, beq_iff_eq, bne_iff_ne, yb, yc, yf, ye, yh, yi, yd, ne_eq, yj, Int.not_lt, Int.not_le] at c1
    refine dwp_exit ?_
    refine zaf ?_
    refine zad ?_
    refine zab rfl rfl rfl (zac (.inl rfl) (ev1 rfl)) ?_
    refine zab rfl rfl rfl (zac (.inr rfl) (ev1 rfl)) ?_
    refine zae ?_
    refine dwp_ret ?_
    have hke : old.take k = old := List.take_of_length_le (by omega)
    refine kend [1] (rs1 rfl (rv_t rfl)) rfl rfl ?_ ⟨arr_eq (by rw [hke]; rfl) (by rw [hke]; rfl), trivial⟩
    rfl
theorem rdoc_a (a b : Int) (old : List TL) (hm : mayS a b = true) (hl : old.length ≤ 100) : DFun Try.prog 21 [.agg [.val (.int .i64 a), .val (.int .i64 b), .slf 256 old.length (old.flatMap tc)]] [] (.slf 1 ((canvasB a b old)).length (((canvasB a b old)).flatMap u8V)) [] := freeze (rdoc_ao a b old hm hl) rfl
set_option maxRecDepth 4000 in
set_option maxHeartbeats 1000000 in
theorem rdoc_to (a b : Int) (old : List TL) (us : List TL) (hus : us.length ≤ old.length) (hm : mayS a b = true) (hl : old.length ≤ 100) : DFun Try.prog 22 [.agg [.val (.int .i64 a), .val (.int .i64 b), .slf 256 old.length (old.flatMap tc)], .agg [.val (.int .i64 a), .val (.int .i64 b), .slf 256 us.length (us.flatMap tc)]] [] (.arr 0) [.arr 5 1 ((patchB a b old us)).length (((patchB a b old us)).flatMap u8V)] := by
  have hb := mayS_b hm
  refine dcalls_go (N := 39) 0 (by kernel_rfl) Try.func22 rfl rfl rfl (by simp only [fr0, Nat.zero_add, Nat.reduceAdd]; exact rfl) rfl fun s0 hs0 => ?_
  refine zaf ?_
  refine zah 2 (by simp only [holes, List.cons_append, List.nil_append]; exact rfl) ?_
  refine zad ?_
  refine walk_w rfl rfl rfl (op_boxam 0 rfl (ev1 rfl) rfl) (by simp only [upd, za, zaa]; exact rfl) ?_
  refine walk_w rfl rfl rfl (op_boxam 1 rfl (ev1 rfl) rfl) (by simp only [upd, za, zaa]; exact rfl) ?_
  refine zab rfl rfl rfl (zac (.inr rfl) (ev1 rfl)) ?_
  refine zae ?_
  refine zaf ?_
  refine zah 1 (by simp only [holes, List.cons_append, List.nil_append]; exact rfl) ?_
  refine zad ?_
  refine zab rfl rfl rfl (op_fa rfl fo41_0 (ev1 rfl)) ?_
  refine zab rfl rfl rfl (op_ldm rfl tb3 (ev1 rfl) rfl rfl) ?_
  refine zab rfl rfl rfl (op_conv' ty3 kn5 rfl (ev1 rfl) (fun _ => IntWalk.u8_in _ (by omega))) ?_
  refine zab rfl rfl rfl (op_fa rfl fo41_1 (ev1 rfl)) ?_
  refine zab rfl rfl rfl (op_ldm rfl tb3 (ev1 rfl) rfl rfl) ?_
  refine zab rfl rfl rfl (op_conv' ty3 kn5 rfl (ev1 rfl) (fun _ => IntWalk.u8_in _ (by omega))) ?_
  refine walk_w rfl rfl rfl (op_bsa (ps := [(0, .tmp 10), (1, .tmp 13)]) 2 rfl sl23 zr5 rfl (vc (ev1 rfl) (vc (ev1 rfl) vn)) rfl (by decide) (by decide) rfl) (by simp only [upd, za, zaa]; exact rfl) ?_
  refine zab rfl rfl rfl (zac (.inr rfl) (ev1 rfl)) ?_
  refine zae ?_
  refine zaf ?_
  refine zaf ?_
  refine zad ?_
  refine zab rfl rfl rfl (op_fa rfl fo41_2 (ev1 rfl)) ?_
  refine zab rfl rfl rfl (op_ldm rfl tb22 (ev1 rfl) rfl rfl) ?_
  refine zab rfl rfl rfl (op_len rfl sl22 (ev1 rfl)) ?_
  refine zab rfl rfl rfl (zac (.inl rfl) (ev1 rfl)) ?_
  refine zae ?_
  refine dwp_block ?_
  refine dwp_loopS ⟨hs0, rfl⟩ (α := Nat) (fun k => [(18, .val (.int .i64 (k : Int)))]) [(2, _), (5, _), (16, _), (17, _)] (fun k => [(2, .arr 5 1 (([a, b] ++ tilesB (thereK old) [] (us.take (k)))).length ((([a, b] ++ tilesB (thereK old) [] (us.take (k)))).flatMap u8V))]) [_, _, .hole] (fun k => k ≤ us.length) (fun k => us.length - k) 0 [0, 1, 2] (Nat.zero_le _) rfl ⟨rfl, rfl, rfl, rfl, trivial⟩ ⟨rfl, trivial⟩ ⟨rfl, rfl, by rw [List.take_zero, tilesB_nil]; rfl, trivial⟩ ?_
  intro k hx
  simp only [upd, za, zaa, List.cons_append, List.nil_append]
  have hk0 := hx
  have hbl := tilesB_len (thereK old) (us.take k) []
  rw [List.length_take] at hbl
  refine zaf ?_
  refine zad ?_
  refine zab rfl rfl rfl (op_lss rfl (ev1 rfl) (ev1 rfl)) ?_
  refine zae ?_
  refine zaf ?_
  refine dwp_cond rfl (fun c1 => ?_) (fun c1 => ?_)
  · try simp only [yg, ya, beq_iff_eq, bne_iff_ne, yb, yc, yf, ye, yh, yi, yd, ne_eq, yj, Int.not_lt, Int.not_le] at c1
    refine dwp_skip ?_
    refine zaf ?_
    refine dwp_block ?_
    refine zaf ?_
    have hk : k < us.length := by omega
    have hko : k < old.length := by omega
    have hth : thereK old (us.take k) = old[k] := by
      rw [thereK_at (by rw [List.length_take]; omega)]
      congr 1
      rw [List.length_take]; omega
    have hap : a :: b :: tilesB (thereK old) [] (us.take (k + 1)) = (a :: b :: tilesB (thereK old) [] (us.take k)) ++ stepK us[k] (old[k]) := by
      rw [tilesB_take _ hk, hth]; rfl
    have htl := tileB_len us[k]
    refine zah 1 (by simp only [holes, List.cons_append, List.nil_append]; exact rfl) ?_
    refine zad ?_
    refine zab rfl rfl rfl (zac (.inl rfl) (ev1 rfl)) ?_
    refine zab rfl rfl rfl (op_ixsr (j := k) rfl sl22 (ev1 rfl) (ev1 rfl) tc_len (by decide) (by omega) (by omega)) ?_
    refine zab rfl rfl rfl (op_ldwd rfl tb29 (ev1 rfl) (tc_len _)) ?_
    refine walk_w rfl rfl rfl (op_alloc 3 rfl zr29 rfl) (by simp only [upd, za, zaa]; exact rfl) ?_
    refine zab rfl rfl rfl (zac (.inr rfl) (ev1 rfl)) ?_
    refine walk_s rfl rfl (op_stwa rfl tb29 (ev1 rfl) (ev1 rfl) rfl (tc_len _) (tc_oc _) ((tc_len _).trans (tc_len _).symm)) (by simp only [upd, za, zaa]; exact rfl) ?_
    refine zae ?_
    refine zaf ?_
    refine dwp_draw [([3], []), ([], []), ([0], []), ([], []), ([], []), ([], []), ([], [])] mixed (by kernel_rfl) ?_
    refine zag rfl rfl (op_ldw rfl tb29 (ev1 rfl) rfl (tc_len _)) ?_
    refine zag rfl rfl (op_fa rfl fo41_2 (ev1 rfl)) ?_
    refine zag rfl rfl (op_ldm rfl tb22 (ev1 rfl) rfl rfl) ?_
    refine zag rfl rfl (zac (.inl rfl) (ev1 rfl)) ?_
    refine zag rfl rfl (op_ixsr (j := k) rfl sl22 (ev1 rfl) (ev1 rfl) tc_len (by decide) (by omega) (by omega)) ?_
    refine zag rfl rfl (op_ldwd rfl tb29 (ev1 rfl) (tc_len _)) ?_
    refine zag rfl rfl (op_eqr eq29 rfl gd29 tb29 (ev1 rfl) (ev1 rfl)) ?_
    refine lex_nil ?_
    refine dwp_cond rfl (fun c1 => ?_) (fun c1 => ?_)
    · have c2 : us[k] = (old[k]) := by simpa using c1
      refine zah 2 (by simp only [holes, List.cons_append, List.nil_append]; exact rfl) ?_
      refine zad ?_
      refine zab rfl rfl rfl (zac (.inl rfl) (ev1 rfl)) ?_
      refine walk_w rfl rfl rfl (op_bsa (ps := [(0, .const (.int .u8 0))]) 4 rfl sl23 zr5 rfl (vc (ev1 rfl) vn) rfl (by decide) (by decide) rfl) (by simp only [upd, za, zaa]; exact rfl) ?_
      refine walk_w rfl rfl rfl (op_app (j := 5) rfl sl23 zr5 rfl (ev1 rfl) (ev1 rfl) (src_arr rfl) rfl rfl (fun _ => rfl) (fun _ => ⟨by simp only [List.length_append, List.length_cons, List.length_nil]; omega, by simp only [List.length_append, List.length_cons, List.length_nil]; omega⟩)) (by simp only [upd, za, zaa]; exact rfl) ?_
      refine zab rfl rfl rfl (zac (.inr rfl) (ev1 rfl)) ?_
      refine zae ?_
      refine zad ?_
      refine zab rfl rfl rfl (op_add' rfl (ev1 rfl) (ev1 rfl) (fun _ => IntWalk.i64_in _ (by omega))) ?_
      refine zab rfl rfl rfl (zac (.inl rfl) (ev1 rfl)) ?_
      refine zae ?_
      refine ⟨k + 1, [0, 1, 5], by omega, by simp only []; omega, rfl, ⟨rfl, rfl, rfl, rfl, rfl, trivial⟩, ⟨rfl, rfl, arr_eq (by rw [hap]; unfold stepK; rw [if_pos c2, List.length_append]; rfl) (by rw [hap]; unfold stepK; rw [if_pos c2, ← ap_u8]; rfl), trivial⟩⟩
    · have c2 : us[k] ≠ (old[k]) := by simpa using c1
      refine zah 1 (by simp only [holes, List.cons_append, List.nil_append]; exact rfl) ?_
      refine zad ?_
      refine zab rfl rfl rfl (zac (.inl rfl) (ev1 rfl)) ?_
      refine zab rfl rfl rfl (op_ldw rfl tb29 (ev1 rfl) rfl (tc_len _)) ?_
      refine zab rfl rfl rfl (zaj [] [] [] rfl (ev1 rfl) (ec (ev1 rfl) en) rfl rfl (rdtile_d us[k]) rfl rfl rfl rfl rfl rfl) ?_
      refine walk_w rfl rfl rfl (op_app (j := 4) rfl sl23 zr5 rfl (ev1 rfl) (ev1 rfl) src_slf rfl rfl (fun _ => flat_oc (fun _ => rfl) _) (fun _ => ⟨by simp only [List.length_append, List.length_cons, List.length_nil]; omega, by simp only [List.length_append, List.length_cons, List.length_nil]; omega⟩)) (by simp only [upd, za, zaa]; exact rfl) ?_
      refine zab rfl rfl rfl (zac (.inr rfl) (ev1 rfl)) ?_
      refine zae ?_
      refine zad ?_
      refine zab rfl rfl rfl (op_add' rfl (ev1 rfl) (ev1 rfl) (fun _ => IntWalk.i64_in _ (by omega))) ?_
      refine zab rfl rfl rfl (zac (.inl rfl) (ev1 rfl)) ?_
      refine zae ?_
      refine ⟨k + 1, [0, 1, 4], by omega, by simp only []; omega, rfl, ⟨rfl, rfl, rfl, rfl, rfl, trivial⟩, ⟨rfl, rfl, arr_eq (by rw [hap]; unfold stepK; rw [if_neg c2, List.length_append]) (by rw [hap]; unfold stepK; rw [if_neg c2, ← ap_u8]), trivial⟩⟩
  · try simp only [yg, ya, beq_iff_eq, bne_iff_ne, yb, yc, yf, ye, yh, yi, yd, ne_eq, yj, Int.not_lt, Int.not_le] at c1
    refine dwp_exit ?_
    refine zaf ?_
    refine zad ?_
    refine zab rfl rfl rfl (zac (.inl rfl) (ev1 rfl)) ?_
    refine zab rfl rfl rfl (zac (.inr rfl) (ev1 rfl)) ?_
    refine zae ?_
    refine dwp_ret ?_
    have hke : us.take k = us := List.take_of_length_le (by omega)
    refine kend [2] (rs1 rfl (rv_t rfl)) rfl rfl ?_ ⟨arr_eq (by rw [hke]; rfl) (by rw [hke]; rfl), trivial⟩
    rfl
theorem rdoc_t (a b : Int) (old : List TL) (us : List TL) (hus : us.length ≤ old.length) (hm : mayS a b = true) (hl : old.length ≤ 100) : DFun Try.prog 22 [.agg [.val (.int .i64 a), .val (.int .i64 b), .slf 256 old.length (old.flatMap tc)], .agg [.val (.int .i64 a), .val (.int .i64 b), .slf 256 us.length (us.flatMap tc)]] [] (.slf 1 ((patchB a b old us)).length (((patchB a b old us)).flatMap u8V)) [] := freeze (rdoc_to a b old us hus hm hl) rfl
end Go.Proofs.Ytcbfnbfhlofkiaa
namespace Go.Proofs.Ytcbfnbfhlofkiaa
set_option maxRecDepth 4000
set_option linter.unusedVariables false
set_option linter.unusedSimpArgs false
open Go.RowKit
attribute [local irreducible] runG bytesG posG tileB tilesB padT rdP rdN mayG
def mayD (acc : List C4) (n : Int) : Bool := decide (1 ≤ n) && decide (n ≤ 64 - (acc.length : Int))
def rdQ (B : List Int) : Nat → List C4 → Nat → Option (List C4 × Nat)
  | 0, acc, p => if acc.length = 64 then some (acc, p) else none
  | f + 1, acc, p => if acc.length = 64 then some (acc, p) else if p + 5 ≤ B.length ∧ mayD acc (bAt B p) = true then rdQ B f (acc ++ List.replicate (bAt B p).toNat (runAt B p).2) (p + 5) else none
theorem rdQ_done {B : List Int} {acc : List C4} (h : acc.length = 64) : ∀ (f p : Nat), rdQ B f acc p = some (acc, p)
  | 0, p => by rw [rdQ, if_pos h]
  | f + 1, p => by rw [rdQ, if_pos h]
theorem rdQ_of {B : List Int} : ∀ {f : Nat} {acc l : List C4} {p q : Nat}, acc.length < 64 → rdP B f acc p = some (l, q) → rdQ B f acc p = some (l, q)
  | 0, _, _, _, _, _, h => by rw [rdP] at h; cases h
  | f + 1, acc, l, p, q, ha, h => by
    obtain ⟨h5, hm, h1, h2⟩ := rdP_some h
    have hg : 1 ≤ bAt B p ∧ bAt B p ≤ 64 - (acc.length : Int) := (mayG_iff.1 hm).1
    rw [rdQ, if_neg (by omega), if_pos ⟨h5, by unfold mayD; simp; omega⟩]
    by_cases h6 : acc.length + (bAt B p).toNat = 64
    · obtain ⟨rfl, rfl⟩ := h1 h6
      exact rdQ_done (by rw [List.length_append, List.length_replicate]; exact h6) _ _
    · exact rdQ_of (by rw [List.length_append, List.length_replicate]; omega) (h2 h6)
theorem rdQ_go {B : List Int} {f : Nat} {acc : List C4} {p : Nat} {r : Option (List C4 × Nat)} (ha : acc.length < 64) (hf : 64 ≤ f + acc.length) (hd : p + 5 ≤ B.length ∧ mayD acc (bAt B p) = true) (h : rdQ B f acc p = r) : (1 ≤ bAt B p ∧ bAt B p ≤ 64 - (acc.length : Int)) ∧ rdQ B (f - 1) (acc ++ List.replicate (bAt B p).toNat (runAt B p).2) (p + 5) = r := by
  cases f with
  | zero => omega
  | succ f =>
    rw [rdQ, if_neg (by omega), if_pos hd] at h
    refine ⟨?_, h⟩
    have := hd.2
    unfold mayD at this
    simp at this
    exact this
theorem rdQ_stop {B : List Int} {f : Nat} {acc : List C4} {p : Nat} (ha : acc.length < 64) (hd : ¬ (p + 5 ≤ B.length ∧ mayD acc (bAt B p) = true)) : rdQ B f acc p = none := by
  cases f with
  | zero => rw [rdQ, if_neg (by omega)]
  | succ f => rw [rdQ, if_neg (by omega), if_neg hd]
theorem docC {B : List Int} (hi : isB B) {acc : List C4} {p : Nat} : ((decide ((B.length : Int) < (p : Int) + 5) || (B.getD p 0 == 0)) || decide ((64 : Int) < (acc.length : Int) + B.getD p 0)) = !(decide (p + 5 ≤ B.length ∧ mayD acc (bAt B p) = true)) := by
  have h := bAt_in hi p
  have e : bAt B p = B.getD p 0 := rfl
  rw [e] at h ⊢
  generalize B.getD p 0 = z at h ⊢
  unfold mayD
  rw [Bool.eq_iff_iff]
  simp
  omega
theorem doc_y {B : List Int} {l : List C4} {q : Nat} (hl : l.length = 64) (h1 : (tileB (padT l)).length = q) (h2 : B.take (tileB (padT l)).length = tileB (padT l)) : rdN B 0 = some (l, q) := by
  have hB : B = tileB (padT l) ++ B.drop (tileB (padT l)).length := by
    have h3 : B.take (tileB (padT l)).length ++ B.drop (tileB (padT l)).length = B := List.take_append_drop _ _
    rw [h2] at h3
    exact h3.symm
  rw [hB, rdN_tile, ← h1, padT_full hl]
theorem rdQ_len {B : List Int} : ∀ {f : Nat} {acc l : List C4} {p q : Nat}, rdQ B f acc p = some (l, q) → l.length = 64
  | 0, acc, l, p, q, h => by
    rw [rdQ] at h
    split at h
    · rename_i h1; cases h; exact h1
    · cases h
  | f + 1, acc, l, p, q, h => by
    rw [rdQ] at h
    split at h
    · rename_i h1; cases h; exact h1
    · split at h
      · exact rdQ_len h
      · cases h
set_option maxRecDepth 4000 in
set_option maxHeartbeats 1000000 in
theorem begins_d (b w : List Int) : DFun Try.prog 35 [.slf 1 (b).length ((b).flatMap u8V), .slf 1 (w).length ((w).flatMap u8V)] [] (.val (.bool (decide (b.take w.length = w)))) [] := by
  refine dcalls_go (N := 27) 0 (by kernel_rfl) Try.func35 rfl rfl rfl (by simp only [fr0, Nat.zero_add, Nat.reduceAdd]; exact rfl) rfl fun s0 hs0 => ?_
  refine dwp_len (t := 0) rfl fun hl0 hL0 => ?_
  refine dwp_len (t := 1) rfl fun hl1 hL1 => ?_
  refine zaf ?_
  refine zad ?_
  refine zab rfl rfl rfl (zac (.inr rfl) (ev1 rfl)) ?_
  refine zae ?_
  refine zaf ?_
  refine zaf ?_
  refine zad ?_
  refine zab rfl rfl rfl (zac (.inl rfl) (ev1 rfl)) ?_
  refine zab rfl rfl rfl (op_len rfl sl23 (ev1 rfl)) ?_
  refine zab rfl rfl rfl (zac (.inl rfl) (ev1 rfl)) ?_
  refine zae ?_
  refine dwp_block ?_
  refine dwp_loopS ⟨hs0, rfl⟩ (α := Nat) (fun k => [(9, .val (.int .i64 (k : Int)))]) [(0, _), (7, _), (8, _)] (fun k => []) [] (fun k => k ≤ w.length ∧ k ≤ b.length ∧ b.take k = w.take k) (fun k => w.length - k) 0 [] (⟨Nat.zero_le _, Nat.zero_le _, rfl⟩) rfl ⟨rfl, rfl, rfl, trivial⟩ ⟨rfl, trivial⟩ trivial ?_
  intro k hx
  simp only [upd, za, zaa, List.cons_append, List.nil_append]
  obtain ⟨hk0, hkb, he⟩ := hx
  refine zaf ?_
  refine zad ?_
  refine zab rfl rfl rfl (op_lss rfl (ev1 rfl) (ev1 rfl)) ?_
  refine zae ?_
  refine zaf ?_
  refine dwp_cond rfl (fun c1 => ?_) (fun c1 => ?_)
  · try simp only [yg, ya, beq_iff_eq, bne_iff_ne, yb, yc, yf, ye, yh, yi, yd, ne_eq, yj, Int.not_lt, Int.not_le] at c1
    refine dwp_skip ?_
    refine zaf ?_
    refine dwp_block ?_
    refine zaf ?_
    refine zad ?_
    refine zab rfl rfl rfl (zac (.inl rfl) (ev1 rfl)) ?_
    refine zab rfl rfl rfl (op_ixsr (j := k) rfl sl23 (ev1 rfl) (ev1 rfl) (fun _ => rfl) (by decide) (by omega) (by omega)) ?_
    refine zab rfl rfl rfl (op_ldod rfl tb5 (ev1 rfl) rfl) ?_
    refine zab rfl rfl rfl (zac (.inr rfl) (ev1 rfl)) ?_
    refine zab rfl rfl rfl (zac (.inr rfl) (ev1 rfl)) ?_
    refine zae ?_
    refine zaf ?_
    refine zad ?_
    refine zab rfl rfl rfl (zac (.inl rfl) (ev1 rfl)) ?_
    refine zab rfl rfl rfl (zac (.inl rfl) (ev1 rfl)) ?_
    refine zab rfl rfl rfl (op_len rfl sl23 (ev1 rfl)) ?_
    refine zab rfl rfl rfl (op_geq rfl (ev1 rfl) (ev1 rfl)) ?_
    refine zab rfl rfl rfl (zac (.inl rfl) (ev1 rfl)) ?_
    refine zai (gd_f rfl rfl rfl) rfl rfl rfl (zac (.inl rfl) (ev1 rfl)) ?_
    refine zai (gd_f rfl rfl rfl) rfl rfl rfl (zac (.inl rfl) (ev1 rfl)) ?_
    refine zai (gd_f rfl rfl rfl) rfl rfl rfl (op_ixsg (j := k) ((0 : Int)) rfl sl23 (ev2 rfl) (ev2 rfl) (fun _ => rfl) (by decide) (fun hp => by first | omega | (simp at hp; omega)) (fun hp => by first | omega | (simp at hp; omega))) ?_
    refine zai (gd_f rfl rfl rfl) rfl rfl rfl (op_ldod rfl tb5 (ev2 rfl) rfl) ?_
    refine zai (gd_f rfl rfl rfl) rfl rfl rfl (zac (.inl rfl) (ev1 rfl)) ?_
    refine zai (gd_f rfl rfl rfl) rfl rfl rfl (op_neq rfl (ev2 rfl) (ev2 rfl)) ?_
    refine zab rfl rfl rfl (op_or rfl (ev1 rfl) (ev3 rfl id)) ?_
    refine zae ?_
    refine dwp_cond rfl (fun c2 => ?_) (fun c2 => ?_)
    · have c3 : ¬ (k < b.length ∧ b[k]? = w[k]?) := by
        rintro ⟨g1, g2⟩
        rw [List.getElem?_eq_getElem (by omega), List.getElem?_eq_getElem (by omega)] at g2
        have g3 := Option.some.inj g2
        have g4 : b.getD k 0 = w[k] := by rw [List.getD_eq_getElem?_getD, List.getElem?_eq_getElem g1]; exact g3
        rw [g4] at c2
        simp at c2
        omega
      refine zaf ?_
      refine zad ?_
      refine zab rfl rfl rfl (zac (.inr rfl) (ev1 rfl)) ?_
      refine zae ?_
      refine dwp_ret ?_
      refine kend0 (rs1 rfl (rv_t rfl)) rfl ?_
      have hne : ¬ b.take w.length = w := fun e => by
        have h1 : (b.take w.length)[k]? = w[k]? := congrArg (fun l => l[k]?) e
        have hlt : k < w.length := by omega
        rw [List.getElem?_take_of_lt hlt] at h1
        refine c3 ⟨?_, h1⟩
        rcases Nat.lt_or_ge k b.length with g | g
        · exact g
        · rw [List.getElem?_eq_none g, List.getElem?_eq_getElem hlt] at h1; cases h1
      rw [decide_eq_false hne]
    · have hkl : k < b.length := by simp at c2; omega
      have c3 : b[k] = w[k] := by
        simp [hkl] at c2
        exact c2
      refine dwp_skip ?_
      refine zad ?_
      refine zab rfl rfl rfl (op_add' rfl (ev1 rfl) (ev1 rfl) (fun _ => IntWalk.i64_in _ (by omega))) ?_
      refine zab rfl rfl rfl (zac (.inl rfl) (ev1 rfl)) ?_
      refine zae ?_
      refine ⟨k + 1, [], ⟨by omega, by omega, by rw [List.take_succ_eq_append_getElem (by omega), List.take_succ_eq_append_getElem (by omega), he, c3]⟩, by simp only []; omega, rfl, ⟨rfl, rfl, rfl, rfl, trivial⟩, trivial⟩
  · try simp only [yg, ya, beq_iff_eq, bne_iff_ne, yb, yc, yf, ye, yh, yi, yd, ne_eq, yj, Int.not_lt, Int.not_le] at c1
    refine dwp_exit ?_
    refine zaf ?_
    refine zad ?_
    refine zab rfl rfl rfl (zac (.inr rfl) (ev1 rfl)) ?_
    refine zae ?_
    refine dwp_ret ?_
    refine kend0 (rs1 rfl (rv_t rfl)) rfl ?_
    obtain rfl : k = w.length := by omega
    rw [List.take_length] at he
    rw [decide_eq_true he]
set_option maxRecDepth 4000 in
set_option maxHeartbeats 1000000 in
theorem rdd_0 (B : List Int) (hB : B.length ≤ 4000000000000000000) (hi : isB B) (h0 : rdQ B 64 [] 0 = none) : DFun Try.prog 15 [.slf 1 (B).length ((B).flatMap u8V)] [] (.tup [.val (.agg (tc zT).toArray), .val (.int .i64 0)]) [] := by
  refine dcalls_go (N := 83) 0 (by kernel_rfl) Try.func15 rfl rfl rfl (by simp only [fr0, Nat.zero_add, Nat.reduceAdd]; exact rfl) rfl fun s0 hs0 => ?_
  refine dwp_len (t := 0) rfl fun hl0 hL0 => ?_
  refine zaf ?_
  refine zah 1 (by simp only [holes, List.cons_append, List.nil_append]; exact rfl) ?_
  refine zad ?_
  refine walk_w rfl rfl rfl (op_alloc 0 rfl zr29 rfl) (by simp only [upd, za, zaa]; exact rfl) ?_
  refine zab rfl rfl rfl (zac (.inr rfl) (ev1 rfl)) ?_
  refine zae ?_
  refine zaf ?_
  refine zah 1 (by simp only [holes, List.cons_append, List.nil_append]; exact rfl) ?_
  refine zad ?_
  refine walk_w rfl rfl rfl (op_alloc 1 rfl zr29 rfl) (by simp only [upd, za, zaa]; exact rfl) ?_
  refine zae ?_
  refine zaf ?_
  refine zad ?_
  refine zab rfl rfl rfl (zac (.inr rfl) (ev1 rfl)) ?_
  refine zab rfl rfl rfl (zac (.inr rfl) (ev1 rfl)) ?_
  refine zae ?_
  refine zaf ?_
  refine dwp_block ?_
  refine dwp_loopS ⟨hs0, rfl⟩ (α := Nat × List C4 × Nat) (fun x => [(5, .val (.int .i64 (x.2.2 : Int))), (6, .val (.int .i64 (x.2.1.length : Int)))]) [(0, _), (2, _), (4, _)] (fun x => [(1, .flat 29 (tc (padT x.2.1)))]) [_, .hole] (fun x => x.2.1.length ≤ 64 ∧ x.2.2 ≤ B.length ∧ 64 ≤ x.1 + x.2.1.length ∧ rdQ B x.1 x.2.1 x.2.2 = none) (fun x => 64 - x.2.1.length) (64, [], 0) [0, 1] (⟨Nat.zero_le _, Nat.zero_le _, Nat.le_refl 64, h0⟩) rfl ⟨rfl, rfl, rfl, trivial⟩ ⟨rfl, rfl, trivial⟩ ⟨rfl, by rw [padT_nil]; rfl, trivial⟩ ?_
  intro x hx
  simp only [upd, za, zaa, List.cons_append, List.nil_append]
  obtain ⟨f, acc, p⟩ := x
  obtain ⟨ha, hpl, hf, hrd⟩ := hx
  dsimp only at ha hpl hf hrd ⊢
  refine zaf ?_
  refine zaf ?_
  refine zad ?_
  refine zab rfl rfl rfl (zac (.inl rfl) (ev1 rfl)) ?_
  refine zab rfl rfl rfl (op_lss rfl (ev1 rfl) (ev1 rfl)) ?_
  refine zae ?_
  refine dwp_cond rfl (fun c1 => ?_) (fun c1 => ?_)
  · try simp only [yg, ya, beq_iff_eq, bne_iff_ne, yb, yc, yf, ye, yh, yi, yd, ne_eq, yj, Int.not_lt, Int.not_le] at c1
    have ha2 : acc.length < 64 := by omega
    refine dwp_skip ?_
    refine dwp_block ?_
    refine zaf ?_
    refine zaf ?_
    by_cases hd : p + 5 ≤ B.length ∧ mayD acc (bAt B p) = true
    · obtain ⟨hnb, hgo⟩ := rdQ_go ha2 hf hd hrd
      have hd1 := hd.1
      refine zad ?_
      refine zab rfl rfl rfl (zac (.inl rfl) (ev1 rfl)) ?_
      refine zab rfl rfl rfl (op_add' rfl (ev1 rfl) (ev1 rfl) (fun _ => IntWalk.i64_in _ (by omega))) ?_
      refine zab rfl rfl rfl (zac (.inl rfl) (ev1 rfl)) ?_
      refine zab rfl rfl rfl (op_len rfl sl23 (ev1 rfl)) ?_
      refine zab rfl rfl rfl (op_gtr rfl (ev1 rfl) (ev1 rfl)) ?_
      refine zab rfl rfl rfl (zac (.inl rfl) (ev1 rfl)) ?_
      refine zai (gd_f rfl rfl rfl) rfl rfl rfl (zac (.inl rfl) (ev1 rfl)) ?_
      refine zai (gd_f rfl rfl rfl) rfl rfl rfl (zac (.inl rfl) (ev1 rfl)) ?_
      refine zai (gd_f rfl rfl rfl) rfl rfl rfl (op_ixsg (j := p) ((0 : Int)) rfl sl23 (ev2 rfl) (ev2 rfl) (fun _ => rfl) (by decide) (fun hp => by first | omega | (simp at hp; omega)) (fun hp => by first | omega | (simp at hp; omega))) ?_
      refine zai (gd_f rfl rfl rfl) rfl rfl rfl (op_ldod rfl tb5 (ev2 rfl) rfl) ?_
      refine zai (gd_f rfl rfl rfl) rfl rfl rfl (op_eql rfl (ev2 rfl) (ev1 rfl)) ?_
      refine zab rfl rfl rfl (op_or rfl (ev1 rfl) (ev3 rfl id)) ?_
      refine zab rfl rfl rfl (zac (.inl rfl) (ev1 rfl)) ?_
      refine zai (gd_f rfl rfl rfl) rfl rfl rfl (zac (.inl rfl) (ev1 rfl)) ?_
      refine zai (gd_f rfl rfl rfl) rfl rfl rfl (zac (.inl rfl) (ev1 rfl)) ?_
      refine zai (gd_f rfl rfl rfl) rfl rfl rfl (zac (.inl rfl) (ev1 rfl)) ?_
      refine zai (gd_f rfl rfl rfl) rfl rfl rfl (op_ixsg (j := p) ((0 : Int)) rfl sl23 (ev2 rfl) (ev2 rfl) (fun _ => rfl) (by decide) (fun hp => by first | omega | (simp at hp; omega)) (fun hp => by first | omega | (simp at hp; omega))) ?_
      refine zai (gd_f rfl rfl rfl) rfl rfl rfl (op_ldod rfl tb5 (ev2 rfl) rfl) ?_
      refine zai (gd_f rfl rfl rfl) rfl rfl rfl (op_conv' ty5 kn3 rfl (ev2 rfl) (fun _ => by have h9 := bAt_in hi p; unfold bAt at h9; exact IntWalk.i64_in _ (by omega))) ?_
      refine zai (gd_f rfl rfl rfl) rfl rfl rfl (op_add' rfl (ev2 rfl) (ev2 rfl) (fun _ => by have h9 := bAt_in hi p; unfold bAt at h9; exact IntWalk.i64_in _ (by omega))) ?_
      refine zai (gd_f rfl rfl rfl) rfl rfl rfl (op_gtr rfl (ev2 rfl) (ev1 rfl)) ?_
      refine zab rfl rfl rfl (op_or rfl (ev1 rfl) (ev3 rfl id)) ?_
      refine zae ?_
      refine dwp_if_f rfl ((docC hi).trans (by rw [decide_eq_true hd]; rfl)) ?_
      refine dwp_skip ?_
      refine zaf ?_
      refine zaf ?_
      refine zad ?_
      refine zab rfl rfl rfl (zac (.inl rfl) (ev1 rfl)) ?_
      refine zab rfl rfl rfl (zac (.inl rfl) (ev1 rfl)) ?_
      refine zab rfl rfl rfl (op_ixsr (j := p) rfl sl23 (ev1 rfl) (ev1 rfl) (fun _ => rfl) (by decide) (by omega) (by omega)) ?_
      refine zab rfl rfl rfl ((op_ldod rfl tb5 (ev1 rfl) rfl).wk (Wk.of_eq (d' := .val (.int .u8 (bAt B (p)))) (by rw [bAt_eq (by omega)]))) ?_
      refine zab rfl rfl rfl (op_conv' ty5 kn3 rfl (ev1 rfl) (fun _ => IntWalk.i64_in _ (by omega))) ?_
      refine zab rfl rfl rfl (zac (.inl rfl) (ev1 rfl)) ?_
      refine zae ?_
      refine dwp_block ?_
      refine dwp_loopS ⟨hs0, rfl⟩ (α := Nat) (fun k => [(6, .val (.int .i64 (acc.length + k : Int))), (38, .val (.int .i64 (k : Int)))]) [(0, _), (2, _), (4, _), (5, _), (37, _)] (fun k => [(1, .flat 29 (tc (padT (acc ++ List.replicate k (runAt B p).2))))]) [_, .hole] (fun k => k ≤ (bAt B p).toNat) (fun k => (bAt B p).toNat - k) 0 [0, 1] (Nat.zero_le _) rfl ⟨rfl, rfl, rfl, rfl, rfl, trivial⟩ ⟨rfl, rfl, trivial⟩ ⟨rfl, by rw [List.replicate_zero, List.append_nil]; rfl, trivial⟩ ?_
      intro k hx
      simp only [upd, za, zaa, List.cons_append, List.nil_append]
      have hk0 := hx
      refine zaf ?_
      refine zad ?_
      refine zab rfl rfl rfl (op_lss rfl (ev1 rfl) (ev1 rfl)) ?_
      refine zae ?_
      refine zaf ?_
      refine dwp_cond rfl (fun c3 => ?_) (fun c3 => ?_)
      · try simp only [yg, ya, beq_iff_eq, bne_iff_ne, yb, yc, yf, ye, yh, yi, yd, ne_eq, yj, Int.not_lt, Int.not_le] at c3
        refine dwp_skip ?_
        refine zaf ?_
        refine dwp_block ?_
        refine zaf ?_
        refine dwp_draw [([], []), ([], []), ([], []), ([], []), ([], []), ([], []), ([], []), ([], []), ([], []), ([], []), ([], []), ([], []), ([], []), ([], []), ([], []), ([], []), ([], []), ([], []), ([], []), ([], []), ([], []), ([], []), ([], []), ([1], [1])] mixed (by kernel_rfl) ?_
        refine zag rfl rfl (zac (.inl rfl) (ev1 rfl)) ?_
        refine zag rfl rfl (zac (.inl rfl) (ev1 rfl)) ?_
        refine zag rfl rfl (zac (.inl rfl) (ev1 rfl)) ?_
        refine zag rfl rfl (op_add' rfl (ev1 rfl) (ev1 rfl) (fun _ => IntWalk.i64_in _ (by omega))) ?_
        refine zag rfl rfl (op_ixsr (j := p + 1) rfl sl23 (ev1 rfl) (ev1 rfl) (fun _ => rfl) (by decide) (by omega) (by omega)) ?_
        refine zag rfl rfl ((op_ldod rfl tb5 (ev1 rfl) rfl).wk (Wk.of_eq (d' := .val (.int .u8 (bAt B (p + 1)))) (by rw [bAt_eq (by omega)]))) ?_
        refine zag rfl rfl (zac (.inl rfl) (ev1 rfl)) ?_
        refine zag rfl rfl (zac (.inl rfl) (ev1 rfl)) ?_
        refine zag rfl rfl (op_add' rfl (ev1 rfl) (ev1 rfl) (fun _ => IntWalk.i64_in _ (by omega))) ?_
        refine zag rfl rfl (op_ixsr (j := p + 2) rfl sl23 (ev1 rfl) (ev1 rfl) (fun _ => rfl) (by decide) (by omega) (by omega)) ?_
        refine zag rfl rfl ((op_ldod rfl tb5 (ev1 rfl) rfl).wk (Wk.of_eq (d' := .val (.int .u8 (bAt B (p + 2)))) (by rw [bAt_eq (by omega)]))) ?_
        refine zag rfl rfl (zac (.inl rfl) (ev1 rfl)) ?_
        refine zag rfl rfl (zac (.inl rfl) (ev1 rfl)) ?_
        refine zag rfl rfl (op_add' rfl (ev1 rfl) (ev1 rfl) (fun _ => IntWalk.i64_in _ (by omega))) ?_
        refine zag rfl rfl (op_ixsr (j := p + 3) rfl sl23 (ev1 rfl) (ev1 rfl) (fun _ => rfl) (by decide) (by omega) (by omega)) ?_
        refine zag rfl rfl ((op_ldod rfl tb5 (ev1 rfl) rfl).wk (Wk.of_eq (d' := .val (.int .u8 (bAt B (p + 3)))) (by rw [bAt_eq (by omega)]))) ?_
        refine zag rfl rfl (zac (.inl rfl) (ev1 rfl)) ?_
        refine zag rfl rfl (zac (.inl rfl) (ev1 rfl)) ?_
        refine zag rfl rfl (op_add' rfl (ev1 rfl) (ev1 rfl) (fun _ => IntWalk.i64_in _ (by omega))) ?_
        refine zag rfl rfl (op_ixsr (j := p + 4) rfl sl23 (ev1 rfl) (ev1 rfl) (fun _ => rfl) (by decide) (by omega) (by omega)) ?_
        refine zag rfl rfl ((op_ldod rfl tb5 (ev1 rfl) rfl).wk (Wk.of_eq (d' := .val (.int .u8 (bAt B (p + 4)))) (by rw [bAt_eq (by omega)]))) ?_
        refine zag rfl rfl (op_build (ps := [(0, .tmp 45), (1, .tmp 50), (2, .tmp 55), (3, .tmp 60)]) rfl fl27 zr27 (vc (ev1 rfl) (vc (ev1 rfl) (vc (ev1 rfl) (vc (ev1 rfl) vn)))) rfl rfl) ?_
        refine zag rfl rfl (op_ixfr (j := acc.length + k) rfl ar29 (ev1 rfl) (ev1 rfl) (fun _ => by omega) (fun _ => by omega)) ?_
        refine lex_s rfl rfl (op_stfr (q := (runAt B p).2) rfl tb27 (ev1 rfl) (ev1 rfl) rfl rfl rfl (fun _ => rfl) (fun _ => by rw [TL.h]; omega)) rfl (by simp only [upd, za, zaa]; exact rfl) ?_
        refine lex_nil ?_
        refine zad ?_
        refine zab rfl rfl rfl (zac (.inl rfl) (ev1 rfl)) ?_
        refine zab rfl rfl rfl (op_add' rfl (ev1 rfl) (ev1 rfl) (fun _ => IntWalk.i64_in _ (by omega))) ?_
        refine zab rfl rfl rfl (zac (.inr rfl) (ev1 rfl)) ?_
        refine zae ?_
        refine zad ?_
        refine zab rfl rfl rfl (op_add' rfl (ev1 rfl) (ev1 rfl) (fun _ => IntWalk.i64_in _ (by omega))) ?_
        refine zab rfl rfl rfl (zac (.inl rfl) (ev1 rfl)) ?_
        refine zae ?_
        refine ⟨k + 1, [0, 1], by omega, by simp only []; omega, rfl, ⟨rfl, rfl, rfl, rfl, rfl, rfl, rfl, trivial⟩, ⟨rfl, by rw [tc_set, padT_rep (by omega)]; rfl, trivial⟩⟩
      · try simp only [yg, ya, beq_iff_eq, bne_iff_ne, yb, yc, yf, ye, yh, yi, yd, ne_eq, yj, Int.not_lt, Int.not_le] at c3
        refine dwp_exit ?_
        refine zad ?_
        refine zab rfl rfl rfl (zac (.inl rfl) (ev1 rfl)) ?_
        refine zab rfl rfl rfl (op_add' rfl (ev1 rfl) (ev1 rfl) (fun _ => IntWalk.i64_in _ (by omega))) ?_
        refine zab rfl rfl rfl (zac (.inr rfl) (ev1 rfl)) ?_
        refine zae ?_
        obtain rfl : k = (bAt B p).toNat := by omega
        refine ⟨(f - 1, acc ++ List.replicate (bAt B p).toNat (runAt B p).2, p + 5), [0, 1], ⟨by rw [List.length_append, List.length_replicate]; omega, hd.1, by rw [List.length_append, List.length_replicate]; omega, hgo⟩, by simp only [List.length_append, List.length_replicate]; omega, rfl, ⟨rfl, by rw [List.length_append, List.length_replicate]; rfl, rfl, rfl, rfl, trivial⟩, ⟨rfl, rfl, trivial⟩⟩
    · refine zad ?_
      refine zab rfl rfl rfl (zac (.inl rfl) (ev1 rfl)) ?_
      refine zab rfl rfl rfl (op_add' rfl (ev1 rfl) (ev1 rfl) (fun _ => IntWalk.i64_in _ (by omega))) ?_
      refine zab rfl rfl rfl (zac (.inl rfl) (ev1 rfl)) ?_
      refine zab rfl rfl rfl (op_len rfl sl23 (ev1 rfl)) ?_
      refine zab rfl rfl rfl (op_gtr rfl (ev1 rfl) (ev1 rfl)) ?_
      refine zab rfl rfl rfl (zac (.inl rfl) (ev1 rfl)) ?_
      refine zai (gd_f rfl rfl rfl) rfl rfl rfl (zac (.inl rfl) (ev1 rfl)) ?_
      refine zai (gd_f rfl rfl rfl) rfl rfl rfl (zac (.inl rfl) (ev1 rfl)) ?_
      refine zai (gd_f rfl rfl rfl) rfl rfl rfl (op_ixsg (j := p) ((0 : Int)) rfl sl23 (ev2 rfl) (ev2 rfl) (fun _ => rfl) (by decide) (fun hp => by first | omega | (simp at hp; omega)) (fun hp => by first | omega | (simp at hp; omega))) ?_
      refine zai (gd_f rfl rfl rfl) rfl rfl rfl (op_ldod rfl tb5 (ev2 rfl) rfl) ?_
      refine zai (gd_f rfl rfl rfl) rfl rfl rfl (op_eql rfl (ev2 rfl) (ev1 rfl)) ?_
      refine zab rfl rfl rfl (op_or rfl (ev1 rfl) (ev3 rfl id)) ?_
      refine zab rfl rfl rfl (zac (.inl rfl) (ev1 rfl)) ?_
      refine zai (gd_f rfl rfl rfl) rfl rfl rfl (zac (.inl rfl) (ev1 rfl)) ?_
      refine zai (gd_f rfl rfl rfl) rfl rfl rfl (zac (.inl rfl) (ev1 rfl)) ?_
      refine zai (gd_f rfl rfl rfl) rfl rfl rfl (zac (.inl rfl) (ev1 rfl)) ?_
      refine zai (gd_f rfl rfl rfl) rfl rfl rfl (op_ixsg (j := p) ((0 : Int)) rfl sl23 (ev2 rfl) (ev2 rfl) (fun _ => rfl) (by decide) (fun hp => by first | omega | (simp at hp; omega)) (fun hp => by first | omega | (simp at hp; omega))) ?_
      refine zai (gd_f rfl rfl rfl) rfl rfl rfl (op_ldod rfl tb5 (ev2 rfl) rfl) ?_
      refine zai (gd_f rfl rfl rfl) rfl rfl rfl (op_conv' ty5 kn3 rfl (ev2 rfl) (fun _ => by have h9 := bAt_in hi p; unfold bAt at h9; exact IntWalk.i64_in _ (by omega))) ?_
      refine zai (gd_f rfl rfl rfl) rfl rfl rfl (op_add' rfl (ev2 rfl) (ev2 rfl) (fun _ => by have h9 := bAt_in hi p; unfold bAt at h9; exact IntWalk.i64_in _ (by omega))) ?_
      refine zai (gd_f rfl rfl rfl) rfl rfl rfl (op_gtr rfl (ev2 rfl) (ev1 rfl)) ?_
      refine zab rfl rfl rfl (op_or rfl (ev1 rfl) (ev3 rfl id)) ?_
      refine zae ?_
      refine dwp_if_t rfl ((docC hi).trans (by rw [decide_eq_false hd]; rfl)) ?_
      refine zaf ?_
      refine zad ?_
      refine zab rfl rfl rfl (op_build0a rfl ar29 zr29) ?_
      refine walk_s rfl rfl (op_stwa rfl tb29 (ev1 rfl) (ev1 rfl) rfl (tc_len _) (tc_oc _) ((tc_len _).trans (tc_len _).symm)) (by simp only [upd, za, zaa]; exact rfl) ?_
      refine zab rfl rfl rfl (zac (.inr rfl) (ev1 rfl)) ?_
      refine zae ?_
      refine dwp_ret ?_
      refine kend0 (rs2 rfl (rv_w tb29 rfl rfl (tc_len _)) (rv_t rfl)) rfl ?_
      rfl
  · have c2 : ¬ ((acc.length : Int) < 64) := by simpa using c1
    rw [rdQ_done (by omega)] at hrd
    cases hrd
set_option maxRecDepth 4000 in
set_option maxHeartbeats 1000000 in
theorem rdd_1 (B : List Int) (hB : B.length ≤ 4000000000000000000) (hi : isB B) (l : List C4) (q : Nat) (h0 : rdQ B 64 [] 0 = some (l, q)) (hc : ((tileB (padT l)).length = q ∧ B.take (tileB (padT l)).length = tileB (padT l))) : DFun Try.prog 15 [.slf 1 (B).length ((B).flatMap u8V)] [] (.tup [.val (.agg (tc (padT l)).toArray), .val (.int .i64 (q : Nat))]) [] := by
  refine dcalls_go (N := 83) 0 (by kernel_rfl) Try.func15 rfl rfl rfl (by simp only [fr0, Nat.zero_add, Nat.reduceAdd]; exact rfl) rfl fun s0 hs0 => ?_
  refine dwp_len (t := 0) rfl fun hl0 hL0 => ?_
  refine zaf ?_
  refine zah 1 (by simp only [holes, List.cons_append, List.nil_append]; exact rfl) ?_
  refine zad ?_
  refine walk_w rfl rfl rfl (op_alloc 0 rfl zr29 rfl) (by simp only [upd, za, zaa]; exact rfl) ?_
  refine zab rfl rfl rfl (zac (.inr rfl) (ev1 rfl)) ?_
  refine zae ?_
  refine zaf ?_
  refine zah 1 (by simp only [holes, List.cons_append, List.nil_append]; exact rfl) ?_
  refine zad ?_
  refine walk_w rfl rfl rfl (op_alloc 1 rfl zr29 rfl) (by simp only [upd, za, zaa]; exact rfl) ?_
  refine zae ?_
  refine zaf ?_
  refine zad ?_
  refine zab rfl rfl rfl (zac (.inr rfl) (ev1 rfl)) ?_
  refine zab rfl rfl rfl (zac (.inr rfl) (ev1 rfl)) ?_
  refine zae ?_
  refine zaf ?_
  refine dwp_block ?_
  refine dwp_loopS ⟨hs0, rfl⟩ (α := Nat × List C4 × Nat) (fun x => [(5, .val (.int .i64 (x.2.2 : Int))), (6, .val (.int .i64 (x.2.1.length : Int)))]) [(0, _), (2, _), (4, _)] (fun x => [(1, .flat 29 (tc (padT x.2.1)))]) [_, .hole] (fun x => x.2.1.length ≤ 64 ∧ x.2.2 ≤ B.length ∧ 64 ≤ x.1 + x.2.1.length ∧ rdQ B x.1 x.2.1 x.2.2 = some (l, q)) (fun x => 64 - x.2.1.length) (64, [], 0) [0, 1] (⟨Nat.zero_le _, Nat.zero_le _, Nat.le_refl 64, h0⟩) rfl ⟨rfl, rfl, rfl, trivial⟩ ⟨rfl, rfl, trivial⟩ ⟨rfl, by rw [padT_nil]; rfl, trivial⟩ ?_
  intro x hx
  simp only [upd, za, zaa, List.cons_append, List.nil_append]
  obtain ⟨f, acc, p⟩ := x
  obtain ⟨ha, hpl, hf, hrd⟩ := hx
  dsimp only at ha hpl hf hrd ⊢
  refine zaf ?_
  refine zaf ?_
  refine zad ?_
  refine zab rfl rfl rfl (zac (.inl rfl) (ev1 rfl)) ?_
  refine zab rfl rfl rfl (op_lss rfl (ev1 rfl) (ev1 rfl)) ?_
  refine zae ?_
  refine dwp_cond rfl (fun c1 => ?_) (fun c1 => ?_)
  · try simp only [yg, ya, beq_iff_eq, bne_iff_ne, yb, yc, yf, ye, yh, yi, yd, ne_eq, yj, Int.not_lt, Int.not_le] at c1
    have ha2 : acc.length < 64 := by omega
    refine dwp_skip ?_
    refine dwp_block ?_
    refine zaf ?_
    refine zaf ?_
    by_cases hd : p + 5 ≤ B.length ∧ mayD acc (bAt B p) = true
    · obtain ⟨hnb, hgo⟩ := rdQ_go ha2 hf hd hrd
      have hd1 := hd.1
      refine zad ?_
      refine zab rfl rfl rfl (zac (.inl rfl) (ev1 rfl)) ?_
      refine zab rfl rfl rfl (op_add' rfl (ev1 rfl) (ev1 rfl) (fun _ => IntWalk.i64_in _ (by omega))) ?_
      refine zab rfl rfl rfl (zac (.inl rfl) (ev1 rfl)) ?_
      refine zab rfl rfl rfl (op_len rfl sl23 (ev1 rfl)) ?_
      refine zab rfl rfl rfl (op_gtr rfl (ev1 rfl) (ev1 rfl)) ?_
      refine zab rfl rfl rfl (zac (.inl rfl) (ev1 rfl)) ?_
      refine zai (gd_f rfl rfl rfl) rfl rfl rfl (zac (.inl rfl) (ev1 rfl)) ?_
      refine zai (gd_f rfl rfl rfl) rfl rfl rfl (zac (.inl rfl) (ev1 rfl)) ?_
      refine zai (gd_f rfl rfl rfl) rfl rfl rfl (op_ixsg (j := p) ((0 : Int)) rfl sl23 (ev2 rfl) (ev2 rfl) (fun _ => rfl) (by decide) (fun hp => by first | omega | (simp at hp; omega)) (fun hp => by first | omega | (simp at hp; omega))) ?_
      refine zai (gd_f rfl rfl rfl) rfl rfl rfl (op_ldod rfl tb5 (ev2 rfl) rfl) ?_
      refine zai (gd_f rfl rfl rfl) rfl rfl rfl (op_eql rfl (ev2 rfl) (ev1 rfl)) ?_
      refine zab rfl rfl rfl (op_or rfl (ev1 rfl) (ev3 rfl id)) ?_
      refine zab rfl rfl rfl (zac (.inl rfl) (ev1 rfl)) ?_
      refine zai (gd_f rfl rfl rfl) rfl rfl rfl (zac (.inl rfl) (ev1 rfl)) ?_
      refine zai (gd_f rfl rfl rfl) rfl rfl rfl (zac (.inl rfl) (ev1 rfl)) ?_
      refine zai (gd_f rfl rfl rfl) rfl rfl rfl (zac (.inl rfl) (ev1 rfl)) ?_
      refine zai (gd_f rfl rfl rfl) rfl rfl rfl (op_ixsg (j := p) ((0 : Int)) rfl sl23 (ev2 rfl) (ev2 rfl) (fun _ => rfl) (by decide) (fun hp => by first | omega | (simp at hp; omega)) (fun hp => by first | omega | (simp at hp; omega))) ?_
      refine zai (gd_f rfl rfl rfl) rfl rfl rfl (op_ldod rfl tb5 (ev2 rfl) rfl) ?_
      refine zai (gd_f rfl rfl rfl) rfl rfl rfl (op_conv' ty5 kn3 rfl (ev2 rfl) (fun _ => by have h9 := bAt_in hi p; unfold bAt at h9; exact IntWalk.i64_in _ (by omega))) ?_
      refine zai (gd_f rfl rfl rfl) rfl rfl rfl (op_add' rfl (ev2 rfl) (ev2 rfl) (fun _ => by have h9 := bAt_in hi p; unfold bAt at h9; exact IntWalk.i64_in _ (by omega))) ?_
      refine zai (gd_f rfl rfl rfl) rfl rfl rfl (op_gtr rfl (ev2 rfl) (ev1 rfl)) ?_
      refine zab rfl rfl rfl (op_or rfl (ev1 rfl) (ev3 rfl id)) ?_
      refine zae ?_
      refine dwp_if_f rfl ((docC hi).trans (by rw [decide_eq_true hd]; rfl)) ?_
      refine dwp_skip ?_
      refine zaf ?_
      refine zaf ?_
      refine zad ?_
      refine zab rfl rfl rfl (zac (.inl rfl) (ev1 rfl)) ?_
      refine zab rfl rfl rfl (zac (.inl rfl) (ev1 rfl)) ?_
      refine zab rfl rfl rfl (op_ixsr (j := p) rfl sl23 (ev1 rfl) (ev1 rfl) (fun _ => rfl) (by decide) (by omega) (by omega)) ?_
      refine zab rfl rfl rfl ((op_ldod rfl tb5 (ev1 rfl) rfl).wk (Wk.of_eq (d' := .val (.int .u8 (bAt B (p)))) (by rw [bAt_eq (by omega)]))) ?_
      refine zab rfl rfl rfl (op_conv' ty5 kn3 rfl (ev1 rfl) (fun _ => IntWalk.i64_in _ (by omega))) ?_
      refine zab rfl rfl rfl (zac (.inl rfl) (ev1 rfl)) ?_
      refine zae ?_
      refine dwp_block ?_
      refine dwp_loopS ⟨hs0, rfl⟩ (α := Nat) (fun k => [(6, .val (.int .i64 (acc.length + k : Int))), (38, .val (.int .i64 (k : Int)))]) [(0, _), (2, _), (4, _), (5, _), (37, _)] (fun k => [(1, .flat 29 (tc (padT (acc ++ List.replicate k (runAt B p).2))))]) [_, .hole] (fun k => k ≤ (bAt B p).toNat) (fun k => (bAt B p).toNat - k) 0 [0, 1] (Nat.zero_le _) rfl ⟨rfl, rfl, rfl, rfl, rfl, trivial⟩ ⟨rfl, rfl, trivial⟩ ⟨rfl, by rw [List.replicate_zero, List.append_nil]; rfl, trivial⟩ ?_
      intro k hx
      simp only [upd, za, zaa, List.cons_append, List.nil_append]
      have hk0 := hx
      refine zaf ?_
      refine zad ?_
      refine zab rfl rfl rfl (op_lss rfl (ev1 rfl) (ev1 rfl)) ?_
      refine zae ?_
      refine zaf ?_
      refine dwp_cond rfl (fun c3 => ?_) (fun c3 => ?_)
      · try simp only [yg, ya, beq_iff_eq, bne_iff_ne, yb, yc, yf, ye, yh, yi, yd, ne_eq, yj, Int.not_lt, Int.not_le] at c3
        refine dwp_skip ?_
        refine zaf ?_
        refine dwp_block ?_
        refine zaf ?_
        refine dwp_draw [([], []), ([], []), ([], []), ([], []), ([], []), ([], []), ([], []), ([], []), ([], []), ([], []), ([], []), ([], []), ([], []), ([], []), ([], []), ([], []), ([], []), ([], []), ([], []), ([], []), ([], []), ([], []), ([], []), ([1], [1])] mixed (by kernel_rfl) ?_
        refine zag rfl rfl (zac (.inl rfl) (ev1 rfl)) ?_
        refine zag rfl rfl (zac (.inl rfl) (ev1 rfl)) ?_
        refine zag rfl rfl (zac (.inl rfl) (ev1 rfl)) ?_
        refine zag rfl rfl (op_add' rfl (ev1 rfl) (ev1 rfl) (fun _ => IntWalk.i64_in _ (by omega))) ?_
        refine zag rfl rfl (op_ixsr (j := p + 1) rfl sl23 (ev1 rfl) (ev1 rfl) (fun _ => rfl) (by decide) (by omega) (by omega)) ?_
        refine zag rfl rfl ((op_ldod rfl tb5 (ev1 rfl) rfl).wk (Wk.of_eq (d' := .val (.int .u8 (bAt B (p + 1)))) (by rw [bAt_eq (by omega)]))) ?_
        refine zag rfl rfl (zac (.inl rfl) (ev1 rfl)) ?_
        refine zag rfl rfl (zac (.inl rfl) (ev1 rfl)) ?_
        refine zag rfl rfl (op_add' rfl (ev1 rfl) (ev1 rfl) (fun _ => IntWalk.i64_in _ (by omega))) ?_
        refine zag rfl rfl (op_ixsr (j := p + 2) rfl sl23 (ev1 rfl) (ev1 rfl) (fun _ => rfl) (by decide) (by omega) (by omega)) ?_
        refine zag rfl rfl ((op_ldod rfl tb5 (ev1 rfl) rfl).wk (Wk.of_eq (d' := .val (.int .u8 (bAt B (p + 2)))) (by rw [bAt_eq (by omega)]))) ?_
        refine zag rfl rfl (zac (.inl rfl) (ev1 rfl)) ?_
        refine zag rfl rfl (zac (.inl rfl) (ev1 rfl)) ?_
        refine zag rfl rfl (op_add' rfl (ev1 rfl) (ev1 rfl) (fun _ => IntWalk.i64_in _ (by omega))) ?_
        refine zag rfl rfl (op_ixsr (j := p + 3) rfl sl23 (ev1 rfl) (ev1 rfl) (fun _ => rfl) (by decide) (by omega) (by omega)) ?_
        refine zag rfl rfl ((op_ldod rfl tb5 (ev1 rfl) rfl).wk (Wk.of_eq (d' := .val (.int .u8 (bAt B (p + 3)))) (by rw [bAt_eq (by omega)]))) ?_
        refine zag rfl rfl (zac (.inl rfl) (ev1 rfl)) ?_
        refine zag rfl rfl (zac (.inl rfl) (ev1 rfl)) ?_
        refine zag rfl rfl (op_add' rfl (ev1 rfl) (ev1 rfl) (fun _ => IntWalk.i64_in _ (by omega))) ?_
        refine zag rfl rfl (op_ixsr (j := p + 4) rfl sl23 (ev1 rfl) (ev1 rfl) (fun _ => rfl) (by decide) (by omega) (by omega)) ?_
        refine zag rfl rfl ((op_ldod rfl tb5 (ev1 rfl) rfl).wk (Wk.of_eq (d' := .val (.int .u8 (bAt B (p + 4)))) (by rw [bAt_eq (by omega)]))) ?_
        refine zag rfl rfl (op_build (ps := [(0, .tmp 45), (1, .tmp 50), (2, .tmp 55), (3, .tmp 60)]) rfl fl27 zr27 (vc (ev1 rfl) (vc (ev1 rfl) (vc (ev1 rfl) (vc (ev1 rfl) vn)))) rfl rfl) ?_
        refine zag rfl rfl (op_ixfr (j := acc.length + k) rfl ar29 (ev1 rfl) (ev1 rfl) (fun _ => by omega) (fun _ => by omega)) ?_
        refine lex_s rfl rfl (op_stfr (q := (runAt B p).2) rfl tb27 (ev1 rfl) (ev1 rfl) rfl rfl rfl (fun _ => rfl) (fun _ => by rw [TL.h]; omega)) rfl (by simp only [upd, za, zaa]; exact rfl) ?_
        refine lex_nil ?_
        refine zad ?_
        refine zab rfl rfl rfl (zac (.inl rfl) (ev1 rfl)) ?_
        refine zab rfl rfl rfl (op_add' rfl (ev1 rfl) (ev1 rfl) (fun _ => IntWalk.i64_in _ (by omega))) ?_
        refine zab rfl rfl rfl (zac (.inr rfl) (ev1 rfl)) ?_
        refine zae ?_
        refine zad ?_
        refine zab rfl rfl rfl (op_add' rfl (ev1 rfl) (ev1 rfl) (fun _ => IntWalk.i64_in _ (by omega))) ?_
        refine zab rfl rfl rfl (zac (.inl rfl) (ev1 rfl)) ?_
        refine zae ?_
        refine ⟨k + 1, [0, 1], by omega, by simp only []; omega, rfl, ⟨rfl, rfl, rfl, rfl, rfl, rfl, rfl, trivial⟩, ⟨rfl, by rw [tc_set, padT_rep (by omega)]; rfl, trivial⟩⟩
      · try simp only [yg, ya, beq_iff_eq, bne_iff_ne, yb, yc, yf, ye, yh, yi, yd, ne_eq, yj, Int.not_lt, Int.not_le] at c3
        refine dwp_exit ?_
        refine zad ?_
        refine zab rfl rfl rfl (zac (.inl rfl) (ev1 rfl)) ?_
        refine zab rfl rfl rfl (op_add' rfl (ev1 rfl) (ev1 rfl) (fun _ => IntWalk.i64_in _ (by omega))) ?_
        refine zab rfl rfl rfl (zac (.inr rfl) (ev1 rfl)) ?_
        refine zae ?_
        obtain rfl : k = (bAt B p).toNat := by omega
        refine ⟨(f - 1, acc ++ List.replicate (bAt B p).toNat (runAt B p).2, p + 5), [0, 1], ⟨by rw [List.length_append, List.length_replicate]; omega, hd.1, by rw [List.length_append, List.length_replicate]; omega, hgo⟩, by simp only [List.length_append, List.length_replicate]; omega, rfl, ⟨rfl, by rw [List.length_append, List.length_replicate]; rfl, rfl, rfl, rfl, trivial⟩, ⟨rfl, rfl, trivial⟩⟩
    · refine zad ?_
      refine zab rfl rfl rfl (zac (.inl rfl) (ev1 rfl)) ?_
      refine zab rfl rfl rfl (op_add' rfl (ev1 rfl) (ev1 rfl) (fun _ => IntWalk.i64_in _ (by omega))) ?_
      refine zab rfl rfl rfl (zac (.inl rfl) (ev1 rfl)) ?_
      refine zab rfl rfl rfl (op_len rfl sl23 (ev1 rfl)) ?_
      refine zab rfl rfl rfl (op_gtr rfl (ev1 rfl) (ev1 rfl)) ?_
      refine zab rfl rfl rfl (zac (.inl rfl) (ev1 rfl)) ?_
      refine zai (gd_f rfl rfl rfl) rfl rfl rfl (zac (.inl rfl) (ev1 rfl)) ?_
      refine zai (gd_f rfl rfl rfl) rfl rfl rfl (zac (.inl rfl) (ev1 rfl)) ?_
      refine zai (gd_f rfl rfl rfl) rfl rfl rfl (op_ixsg (j := p) ((0 : Int)) rfl sl23 (ev2 rfl) (ev2 rfl) (fun _ => rfl) (by decide) (fun hp => by first | omega | (simp at hp; omega)) (fun hp => by first | omega | (simp at hp; omega))) ?_
      refine zai (gd_f rfl rfl rfl) rfl rfl rfl (op_ldod rfl tb5 (ev2 rfl) rfl) ?_
      refine zai (gd_f rfl rfl rfl) rfl rfl rfl (op_eql rfl (ev2 rfl) (ev1 rfl)) ?_
      refine zab rfl rfl rfl (op_or rfl (ev1 rfl) (ev3 rfl id)) ?_
      refine zab rfl rfl rfl (zac (.inl rfl) (ev1 rfl)) ?_
      refine zai (gd_f rfl rfl rfl) rfl rfl rfl (zac (.inl rfl) (ev1 rfl)) ?_
      refine zai (gd_f rfl rfl rfl) rfl rfl rfl (zac (.inl rfl) (ev1 rfl)) ?_
      refine zai (gd_f rfl rfl rfl) rfl rfl rfl (zac (.inl rfl) (ev1 rfl)) ?_
      refine zai (gd_f rfl rfl rfl) rfl rfl rfl (op_ixsg (j := p) ((0 : Int)) rfl sl23 (ev2 rfl) (ev2 rfl) (fun _ => rfl) (by decide) (fun hp => by first | omega | (simp at hp; omega)) (fun hp => by first | omega | (simp at hp; omega))) ?_
      refine zai (gd_f rfl rfl rfl) rfl rfl rfl (op_ldod rfl tb5 (ev2 rfl) rfl) ?_
      refine zai (gd_f rfl rfl rfl) rfl rfl rfl (op_conv' ty5 kn3 rfl (ev2 rfl) (fun _ => by have h9 := bAt_in hi p; unfold bAt at h9; exact IntWalk.i64_in _ (by omega))) ?_
      refine zai (gd_f rfl rfl rfl) rfl rfl rfl (op_add' rfl (ev2 rfl) (ev2 rfl) (fun _ => by have h9 := bAt_in hi p; unfold bAt at h9; exact IntWalk.i64_in _ (by omega))) ?_
      refine zai (gd_f rfl rfl rfl) rfl rfl rfl (op_gtr rfl (ev2 rfl) (ev1 rfl)) ?_
      refine zab rfl rfl rfl (op_or rfl (ev1 rfl) (ev3 rfl id)) ?_
      refine zae ?_
      refine dwp_if_t rfl ((docC hi).trans (by rw [decide_eq_false hd]; rfl)) ?_
      refine zaf ?_
      refine zad ?_
      refine zab rfl rfl rfl (op_build0a rfl ar29 zr29) ?_
      refine walk_s rfl rfl (op_stwa rfl tb29 (ev1 rfl) (ev1 rfl) rfl (tc_len _) (tc_oc _) ((tc_len _).trans (tc_len _).symm)) (by simp only [upd, za, zaa]; exact rfl) ?_
      refine zab rfl rfl rfl (zac (.inr rfl) (ev1 rfl)) ?_
      refine zae ?_
      refine dwp_ret ?_
      refine kend0 (rs2 rfl (rv_w tb29 rfl rfl (tc_len _)) (rv_t rfl)) rfl ?_
      rw [rdQ_stop ha2 hd] at hrd
      cases hrd
  · try simp only [yg, ya, beq_iff_eq, bne_iff_ne, yb, yc, yf, ye, yh, yi, yd, ne_eq, yj, Int.not_lt, Int.not_le] at c1
    have ha2 : acc.length = 64 := by omega
    rw [rdQ_done ha2] at hrd
    obtain ⟨rfl, rfl⟩ := Prod.mk.inj (Option.some.inj hrd)
    refine dwp_exit ?_
    refine zaf ?_
    refine zaf ?_
    refine zad ?_
    refine zab rfl rfl rfl (op_ldw rfl tb29 (ev1 rfl) rfl (tc_len _)) ?_
    refine zab rfl rfl rfl (zaj [] [] [] rfl (ev1 rfl) (ec (ev1 rfl) en) rfl rfl (rdtile_d (padT acc)) rfl rfl rfl rfl rfl rfl) ?_
    refine zab rfl rfl rfl (zac (.inr rfl) (ev1 rfl)) ?_
    refine zae ?_
    refine zaf ?_
    refine zad ?_
    refine zab rfl rfl rfl (zac (.inl rfl) (ev1 rfl)) ?_
    refine zab rfl rfl rfl (op_len rfl sl23 (ev1 rfl)) ?_
    refine zab rfl rfl rfl (zac (.inl rfl) (ev1 rfl)) ?_
    refine zab rfl rfl rfl (op_neq rfl (ev1 rfl) (ev1 rfl)) ?_
    refine zab rfl rfl rfl (zac (.inl rfl) (ev1 rfl)) ?_
    refine zai (gd_f rfl rfl rfl) rfl rfl rfl (zac (.inl rfl) (ev1 rfl)) ?_
    refine zai (gd_f rfl rfl rfl) rfl rfl rfl (zac (.inl rfl) (ev1 rfl)) ?_
    refine zai (gd_f rfl rfl rfl) rfl rfl rfl (zaj [] [] [] rfl (ev1 rfl) (ec (ev2 rfl) (ec (ev2 rfl) en)) rfl rfl (begins_d B (tileB (padT acc))) rfl rfl rfl rfl rfl rfl) ?_
    refine zai (gd_f rfl rfl rfl) rfl rfl rfl (op_not rfl (ev2 rfl)) ?_
    refine zab rfl rfl rfl (op_or rfl (ev1 rfl) (ev3 rfl id)) ?_
    refine zae ?_
    refine dwp_if_f rfl (by rw [decide_eq_true hc.2]; simp [hc.1]) ?_
    refine dwp_skip ?_
    refine zaf ?_
    refine zad ?_
    refine zab rfl rfl rfl (op_ldw rfl tb29 (ev1 rfl) rfl (tc_len _)) ?_
    refine zab rfl rfl rfl (zac (.inl rfl) (ev1 rfl)) ?_
    refine walk_s rfl rfl (op_stwa rfl tb29 (ev1 rfl) (ev1 rfl) rfl (tc_len _) (tc_oc _) ((tc_len _).trans (tc_len _).symm)) (by simp only [upd, za, zaa]; exact rfl) ?_
    refine zab rfl rfl rfl (zac (.inr rfl) (ev1 rfl)) ?_
    refine zae ?_
    refine dwp_ret ?_
    refine kend0 (rs2 rfl (rv_w tb29 rfl rfl (tc_len _)) (rv_t rfl)) rfl ?_
    rfl
set_option maxRecDepth 4000 in
set_option maxHeartbeats 1000000 in
theorem rdd_2 (B : List Int) (hB : B.length ≤ 4000000000000000000) (hi : isB B) (l : List C4) (q : Nat) (h0 : rdQ B 64 [] 0 = some (l, q)) (hc : ¬ ((tileB (padT l)).length = q ∧ B.take (tileB (padT l)).length = tileB (padT l))) : DFun Try.prog 15 [.slf 1 (B).length ((B).flatMap u8V)] [] (.tup [.val (.agg (tc zT).toArray), .val (.int .i64 0)]) [] := by
  refine dcalls_go (N := 83) 0 (by kernel_rfl) Try.func15 rfl rfl rfl (by simp only [fr0, Nat.zero_add, Nat.reduceAdd]; exact rfl) rfl fun s0 hs0 => ?_
  refine dwp_len (t := 0) rfl fun hl0 hL0 => ?_
  refine zaf ?_
  refine zah 1 (by simp only [holes, List.cons_append, List.nil_append]; exact rfl) ?_
  refine zad ?_
  refine walk_w rfl rfl rfl (op_alloc 0 rfl zr29 rfl) (by simp only [upd, za, zaa]; exact rfl) ?_
  refine zab rfl rfl rfl (zac (.inr rfl) (ev1 rfl)) ?_
  refine zae ?_
  refine zaf ?_
  refine zah 1 (by simp only [holes, List.cons_append, List.nil_append]; exact rfl) ?_
  refine zad ?_
  refine walk_w rfl rfl rfl (op_alloc 1 rfl zr29 rfl) (by simp only [upd, za, zaa]; exact rfl) ?_
  refine zae ?_
  refine zaf ?_
  refine zad ?_
  refine zab rfl rfl rfl (zac (.inr rfl) (ev1 rfl)) ?_
  refine zab rfl rfl rfl (zac (.inr rfl) (ev1 rfl)) ?_
  refine zae ?_
  refine zaf ?_
  refine dwp_block ?_
  refine dwp_loopS ⟨hs0, rfl⟩ (α := Nat × List C4 × Nat) (fun x => [(5, .val (.int .i64 (x.2.2 : Int))), (6, .val (.int .i64 (x.2.1.length : Int)))]) [(0, _), (2, _), (4, _)] (fun x => [(1, .flat 29 (tc (padT x.2.1)))]) [_, .hole] (fun x => x.2.1.length ≤ 64 ∧ x.2.2 ≤ B.length ∧ 64 ≤ x.1 + x.2.1.length ∧ rdQ B x.1 x.2.1 x.2.2 = some (l, q)) (fun x => 64 - x.2.1.length) (64, [], 0) [0, 1] (⟨Nat.zero_le _, Nat.zero_le _, Nat.le_refl 64, h0⟩) rfl ⟨rfl, rfl, rfl, trivial⟩ ⟨rfl, rfl, trivial⟩ ⟨rfl, by rw [padT_nil]; rfl, trivial⟩ ?_
  intro x hx
  simp only [upd, za, zaa, List.cons_append, List.nil_append]
  obtain ⟨f, acc, p⟩ := x
  obtain ⟨ha, hpl, hf, hrd⟩ := hx
  dsimp only at ha hpl hf hrd ⊢
  refine zaf ?_
  refine zaf ?_
  refine zad ?_
  refine zab rfl rfl rfl (zac (.inl rfl) (ev1 rfl)) ?_
  refine zab rfl rfl rfl (op_lss rfl (ev1 rfl) (ev1 rfl)) ?_
  refine zae ?_
  refine dwp_cond rfl (fun c1 => ?_) (fun c1 => ?_)
  · try simp only [yg, ya, beq_iff_eq, bne_iff_ne, yb, yc, yf, ye, yh, yi, yd, ne_eq, yj, Int.not_lt, Int.not_le] at c1
    have ha2 : acc.length < 64 := by omega
    refine dwp_skip ?_
    refine dwp_block ?_
    refine zaf ?_
    refine zaf ?_
    by_cases hd : p + 5 ≤ B.length ∧ mayD acc (bAt B p) = true
    · obtain ⟨hnb, hgo⟩ := rdQ_go ha2 hf hd hrd
      have hd1 := hd.1
      refine zad ?_
      refine zab rfl rfl rfl (zac (.inl rfl) (ev1 rfl)) ?_
      refine zab rfl rfl rfl (op_add' rfl (ev1 rfl) (ev1 rfl) (fun _ => IntWalk.i64_in _ (by omega))) ?_
      refine zab rfl rfl rfl (zac (.inl rfl) (ev1 rfl)) ?_
      refine zab rfl rfl rfl (op_len rfl sl23 (ev1 rfl)) ?_
      refine zab rfl rfl rfl (op_gtr rfl (ev1 rfl) (ev1 rfl)) ?_
      refine zab rfl rfl rfl (zac (.inl rfl) (ev1 rfl)) ?_
      refine zai (gd_f rfl rfl rfl) rfl rfl rfl (zac (.inl rfl) (ev1 rfl)) ?_
      refine zai (gd_f rfl rfl rfl) rfl rfl rfl (zac (.inl rfl) (ev1 rfl)) ?_
      refine zai (gd_f rfl rfl rfl) rfl rfl rfl (op_ixsg (j := p) ((0 : Int)) rfl sl23 (ev2 rfl) (ev2 rfl) (fun _ => rfl) (by decide) (fun hp => by first | omega | (simp at hp; omega)) (fun hp => by first | omega | (simp at hp; omega))) ?_
      refine zai (gd_f rfl rfl rfl) rfl rfl rfl (op_ldod rfl tb5 (ev2 rfl) rfl) ?_
      refine zai (gd_f rfl rfl rfl) rfl rfl rfl (op_eql rfl (ev2 rfl) (ev1 rfl)) ?_
      refine zab rfl rfl rfl (op_or rfl (ev1 rfl) (ev3 rfl id)) ?_
      refine zab rfl rfl rfl (zac (.inl rfl) (ev1 rfl)) ?_
      refine zai (gd_f rfl rfl rfl) rfl rfl rfl (zac (.inl rfl) (ev1 rfl)) ?_
      refine zai (gd_f rfl rfl rfl) rfl rfl rfl (zac (.inl rfl) (ev1 rfl)) ?_
      refine zai (gd_f rfl rfl rfl) rfl rfl rfl (zac (.inl rfl) (ev1 rfl)) ?_
      refine zai (gd_f rfl rfl rfl) rfl rfl rfl (op_ixsg (j := p) ((0 : Int)) rfl sl23 (ev2 rfl) (ev2 rfl) (fun _ => rfl) (by decide) (fun hp => by first | omega | (simp at hp; omega)) (fun hp => by first | omega | (simp at hp; omega))) ?_
      refine zai (gd_f rfl rfl rfl) rfl rfl rfl (op_ldod rfl tb5 (ev2 rfl) rfl) ?_
      refine zai (gd_f rfl rfl rfl) rfl rfl rfl (op_conv' ty5 kn3 rfl (ev2 rfl) (fun _ => by have h9 := bAt_in hi p; unfold bAt at h9; exact IntWalk.i64_in _ (by omega))) ?_
      refine zai (gd_f rfl rfl rfl) rfl rfl rfl (op_add' rfl (ev2 rfl) (ev2 rfl) (fun _ => by have h9 := bAt_in hi p; unfold bAt at h9; exact IntWalk.i64_in _ (by omega))) ?_
      refine zai (gd_f rfl rfl rfl) rfl rfl rfl (op_gtr rfl (ev2 rfl) (ev1 rfl)) ?_
      refine zab rfl rfl rfl (op_or rfl (ev1 rfl) (ev3 rfl id)) ?_
      refine zae ?_
      refine dwp_if_f rfl ((docC hi).trans (by rw [decide_eq_true hd]; rfl)) ?_
      refine dwp_skip ?_
      refine zaf ?_
      refine zaf ?_
      refine zad ?_
      refine zab rfl rfl rfl (zac (.inl rfl) (ev1 rfl)) ?_
      refine zab rfl rfl rfl (zac (.inl rfl) (ev1 rfl)) ?_
      refine zab rfl rfl rfl (op_ixsr (j := p) rfl sl23 (ev1 rfl) (ev1 rfl) (fun _ => rfl) (by decide) (by omega) (by omega)) ?_
      refine zab rfl rfl rfl ((op_ldod rfl tb5 (ev1 rfl) rfl).wk (Wk.of_eq (d' := .val (.int .u8 (bAt B (p)))) (by rw [bAt_eq (by omega)]))) ?_
      refine zab rfl rfl rfl (op_conv' ty5 kn3 rfl (ev1 rfl) (fun _ => IntWalk.i64_in _ (by omega))) ?_
      refine zab rfl rfl rfl (zac (.inl rfl) (ev1 rfl)) ?_
      refine zae ?_
      refine dwp_block ?_
      refine dwp_loopS ⟨hs0, rfl⟩ (α := Nat) (fun k => [(6, .val (.int .i64 (acc.length + k : Int))), (38, .val (.int .i64 (k : Int)))]) [(0, _), (2, _), (4, _), (5, _), (37, _)] (fun k => [(1, .flat 29 (tc (padT (acc ++ List.replicate k (runAt B p).2))))]) [_, .hole] (fun k => k ≤ (bAt B p).toNat) (fun k => (bAt B p).toNat - k) 0 [0, 1] (Nat.zero_le _) rfl ⟨rfl, rfl, rfl, rfl, rfl, trivial⟩ ⟨rfl, rfl, trivial⟩ ⟨rfl, by rw [List.replicate_zero, List.append_nil]; rfl, trivial⟩ ?_
      intro k hx
      simp only [upd, za, zaa, List.cons_append, List.nil_append]
      have hk0 := hx
      refine zaf ?_
      refine zad ?_
      refine zab rfl rfl rfl (op_lss rfl (ev1 rfl) (ev1 rfl)) ?_
      refine zae ?_
      refine zaf ?_
      refine dwp_cond rfl (fun c3 => ?_) (fun c3 => ?_)
      · try simp only [yg, ya, beq_iff_eq, bne_iff_ne, yb, yc, yf, ye, yh, yi, yd, ne_eq, yj, Int.not_lt, Int.not_le] at c3
        refine dwp_skip ?_
        refine zaf ?_
        refine dwp_block ?_
        refine zaf ?_
        refine dwp_draw [([], []), ([], []), ([], []), ([], []), ([], []), ([], []), ([], []), ([], []), ([], []), ([], []), ([], []), ([], []), ([], []), ([], []), ([], []), ([], []), ([], []), ([], []), ([], []), ([], []), ([], []), ([], []), ([], []), ([1], [1])] mixed (by kernel_rfl) ?_
        refine zag rfl rfl (zac (.inl rfl) (ev1 rfl)) ?_
        refine zag rfl rfl (zac (.inl rfl) (ev1 rfl)) ?_
        refine zag rfl rfl (zac (.inl rfl) (ev1 rfl)) ?_
        refine zag rfl rfl (op_add' rfl (ev1 rfl) (ev1 rfl) (fun _ => IntWalk.i64_in _ (by omega))) ?_
        refine zag rfl rfl (op_ixsr (j := p + 1) rfl sl23 (ev1 rfl) (ev1 rfl) (fun _ => rfl) (by decide) (by omega) (by omega)) ?_
        refine zag rfl rfl ((op_ldod rfl tb5 (ev1 rfl) rfl).wk (Wk.of_eq (d' := .val (.int .u8 (bAt B (p + 1)))) (by rw [bAt_eq (by omega)]))) ?_
        refine zag rfl rfl (zac (.inl rfl) (ev1 rfl)) ?_
        refine zag rfl rfl (zac (.inl rfl) (ev1 rfl)) ?_
        refine zag rfl rfl (op_add' rfl (ev1 rfl) (ev1 rfl) (fun _ => IntWalk.i64_in _ (by omega))) ?_
        refine zag rfl rfl (op_ixsr (j := p + 2) rfl sl23 (ev1 rfl) (ev1 rfl) (fun _ => rfl) (by decide) (by omega) (by omega)) ?_
        refine zag rfl rfl ((op_ldod rfl tb5 (ev1 rfl) rfl).wk (Wk.of_eq (d' := .val (.int .u8 (bAt B (p + 2)))) (by rw [bAt_eq (by omega)]))) ?_
        refine zag rfl rfl (zac (.inl rfl) (ev1 rfl)) ?_
        refine zag rfl rfl (zac (.inl rfl) (ev1 rfl)) ?_
        refine zag rfl rfl (op_add' rfl (ev1 rfl) (ev1 rfl) (fun _ => IntWalk.i64_in _ (by omega))) ?_
        refine zag rfl rfl (op_ixsr (j := p + 3) rfl sl23 (ev1 rfl) (ev1 rfl) (fun _ => rfl) (by decide) (by omega) (by omega)) ?_
        refine zag rfl rfl ((op_ldod rfl tb5 (ev1 rfl) rfl).wk (Wk.of_eq (d' := .val (.int .u8 (bAt B (p + 3)))) (by rw [bAt_eq (by omega)]))) ?_
        refine zag rfl rfl (zac (.inl rfl) (ev1 rfl)) ?_
        refine zag rfl rfl (zac (.inl rfl) (ev1 rfl)) ?_
        refine zag rfl rfl (op_add' rfl (ev1 rfl) (ev1 rfl) (fun _ => IntWalk.i64_in _ (by omega))) ?_
        refine zag rfl rfl (op_ixsr (j := p + 4) rfl sl23 (ev1 rfl) (ev1 rfl) (fun _ => rfl) (by decide) (by omega) (by omega)) ?_
        refine zag rfl rfl ((op_ldod rfl tb5 (ev1 rfl) rfl).wk (Wk.of_eq (d' := .val (.int .u8 (bAt B (p + 4)))) (by rw [bAt_eq (by omega)]))) ?_
        refine zag rfl rfl (op_build (ps := [(0, .tmp 45), (1, .tmp 50), (2, .tmp 55), (3, .tmp 60)]) rfl fl27 zr27 (vc (ev1 rfl) (vc (ev1 rfl) (vc (ev1 rfl) (vc (ev1 rfl) vn)))) rfl rfl) ?_
        refine zag rfl rfl (op_ixfr (j := acc.length + k) rfl ar29 (ev1 rfl) (ev1 rfl) (fun _ => by omega) (fun _ => by omega)) ?_
        refine lex_s rfl rfl (op_stfr (q := (runAt B p).2) rfl tb27 (ev1 rfl) (ev1 rfl) rfl rfl rfl (fun _ => rfl) (fun _ => by rw [TL.h]; omega)) rfl (by simp only [upd, za, zaa]; exact rfl) ?_
        refine lex_nil ?_
        refine zad ?_
        refine zab rfl rfl rfl (zac (.inl rfl) (ev1 rfl)) ?_
        refine zab rfl rfl rfl (op_add' rfl (ev1 rfl) (ev1 rfl) (fun _ => IntWalk.i64_in _ (by omega))) ?_
        refine zab rfl rfl rfl (zac (.inr rfl) (ev1 rfl)) ?_
        refine zae ?_
        refine zad ?_
        refine zab rfl rfl rfl (op_add' rfl (ev1 rfl) (ev1 rfl) (fun _ => IntWalk.i64_in _ (by omega))) ?_
        refine zab rfl rfl rfl (zac (.inl rfl) (ev1 rfl)) ?_
        refine zae ?_
        refine ⟨k + 1, [0, 1], by omega, by simp only []; omega, rfl, ⟨rfl, rfl, rfl, rfl, rfl, rfl, rfl, trivial⟩, ⟨rfl, by rw [tc_set, padT_rep (by omega)]; rfl, trivial⟩⟩
      · try simp only [yg, ya, beq_iff_eq, bne_iff_ne, yb, yc, yf, ye, yh, yi, yd, ne_eq, yj, Int.not_lt, Int.not_le] at c3
        refine dwp_exit ?_
        refine zad ?_
        refine zab rfl rfl rfl (zac (.inl rfl) (ev1 rfl)) ?_
        refine zab rfl rfl rfl (op_add' rfl (ev1 rfl) (ev1 rfl) (fun _ => IntWalk.i64_in _ (by omega))) ?_
        refine zab rfl rfl rfl (zac (.inr rfl) (ev1 rfl)) ?_
        refine zae ?_
        obtain rfl : k = (bAt B p).toNat := by omega
        refine ⟨(f - 1, acc ++ List.replicate (bAt B p).toNat (runAt B p).2, p + 5), [0, 1], ⟨by rw [List.length_append, List.length_replicate]; omega, hd.1, by rw [List.length_append, List.length_replicate]; omega, hgo⟩, by simp only [List.length_append, List.length_replicate]; omega, rfl, ⟨rfl, by rw [List.length_append, List.length_replicate]; rfl, rfl, rfl, rfl, trivial⟩, ⟨rfl, rfl, trivial⟩⟩
    · refine zad ?_
      refine zab rfl rfl rfl (zac (.inl rfl) (ev1 rfl)) ?_
      refine zab rfl rfl rfl (op_add' rfl (ev1 rfl) (ev1 rfl) (fun _ => IntWalk.i64_in _ (by omega))) ?_
      refine zab rfl rfl rfl (zac (.inl rfl) (ev1 rfl)) ?_
      refine zab rfl rfl rfl (op_len rfl sl23 (ev1 rfl)) ?_
      refine zab rfl rfl rfl (op_gtr rfl (ev1 rfl) (ev1 rfl)) ?_
      refine zab rfl rfl rfl (zac (.inl rfl) (ev1 rfl)) ?_
      refine zai (gd_f rfl rfl rfl) rfl rfl rfl (zac (.inl rfl) (ev1 rfl)) ?_
      refine zai (gd_f rfl rfl rfl) rfl rfl rfl (zac (.inl rfl) (ev1 rfl)) ?_
      refine zai (gd_f rfl rfl rfl) rfl rfl rfl (op_ixsg (j := p) ((0 : Int)) rfl sl23 (ev2 rfl) (ev2 rfl) (fun _ => rfl) (by decide) (fun hp => by first | omega | (simp at hp; omega)) (fun hp => by first | omega | (simp at hp; omega))) ?_
      refine zai (gd_f rfl rfl rfl) rfl rfl rfl (op_ldod rfl tb5 (ev2 rfl) rfl) ?_
      refine zai (gd_f rfl rfl rfl) rfl rfl rfl (op_eql rfl (ev2 rfl) (ev1 rfl)) ?_
      refine zab rfl rfl rfl (op_or rfl (ev1 rfl) (ev3 rfl id)) ?_
      refine zab rfl rfl rfl (zac (.inl rfl) (ev1 rfl)) ?_
      refine zai (gd_f rfl rfl rfl) rfl rfl rfl (zac (.inl rfl) (ev1 rfl)) ?_
      refine zai (gd_f rfl rfl rfl) rfl rfl rfl (zac (.inl rfl) (ev1 rfl)) ?_
      refine zai (gd_f rfl rfl rfl) rfl rfl rfl (zac (.inl rfl) (ev1 rfl)) ?_
      refine zai (gd_f rfl rfl rfl) rfl rfl rfl (op_ixsg (j := p) ((0 : Int)) rfl sl23 (ev2 rfl) (ev2 rfl) (fun _ => rfl) (by decide) (fun hp => by first | omega | (simp at hp; omega)) (fun hp => by first | omega | (simp at hp; omega))) ?_
      refine zai (gd_f rfl rfl rfl) rfl rfl rfl (op_ldod rfl tb5 (ev2 rfl) rfl) ?_
      refine zai (gd_f rfl rfl rfl) rfl rfl rfl (op_conv' ty5 kn3 rfl (ev2 rfl) (fun _ => by have h9 := bAt_in hi p; unfold bAt at h9; exact IntWalk.i64_in _ (by omega))) ?_
      refine zai (gd_f rfl rfl rfl) rfl rfl rfl (op_add' rfl (ev2 rfl) (ev2 rfl) (fun _ => by have h9 := bAt_in hi p; unfold bAt at h9; exact IntWalk.i64_in _ (by omega))) ?_
      refine zai (gd_f rfl rfl rfl) rfl rfl rfl (op_gtr rfl (ev2 rfl) (ev1 rfl)) ?_
      refine zab rfl rfl rfl (op_or rfl (ev1 rfl) (ev3 rfl id)) ?_
      refine zae ?_
      refine dwp_if_t rfl ((docC hi).trans (by rw [decide_eq_false hd]; rfl)) ?_
      refine zaf ?_
      refine zad ?_
      refine zab rfl rfl rfl (op_build0a rfl ar29 zr29) ?_
      refine walk_s rfl rfl (op_stwa rfl tb29 (ev1 rfl) (ev1 rfl) rfl (tc_len _) (tc_oc _) ((tc_len _).trans (tc_len _).symm)) (by simp only [upd, za, zaa]; exact rfl) ?_
      refine zab rfl rfl rfl (zac (.inr rfl) (ev1 rfl)) ?_
      refine zae ?_
      refine dwp_ret ?_
      refine kend0 (rs2 rfl (rv_w tb29 rfl rfl (tc_len _)) (rv_t rfl)) rfl ?_
      rfl
  · try simp only [yg, ya, beq_iff_eq, bne_iff_ne, yb, yc, yf, ye, yh, yi, yd, ne_eq, yj, Int.not_lt, Int.not_le] at c1
    have ha2 : acc.length = 64 := by omega
    rw [rdQ_done ha2] at hrd
    obtain ⟨rfl, rfl⟩ := Prod.mk.inj (Option.some.inj hrd)
    refine dwp_exit ?_
    refine zaf ?_
    refine zaf ?_
    refine zad ?_
    refine zab rfl rfl rfl (op_ldw rfl tb29 (ev1 rfl) rfl (tc_len _)) ?_
    refine zab rfl rfl rfl (zaj [] [] [] rfl (ev1 rfl) (ec (ev1 rfl) en) rfl rfl (rdtile_d (padT acc)) rfl rfl rfl rfl rfl rfl) ?_
    refine zab rfl rfl rfl (zac (.inr rfl) (ev1 rfl)) ?_
    refine zae ?_
    refine zaf ?_
    refine zad ?_
    refine zab rfl rfl rfl (zac (.inl rfl) (ev1 rfl)) ?_
    refine zab rfl rfl rfl (op_len rfl sl23 (ev1 rfl)) ?_
    refine zab rfl rfl rfl (zac (.inl rfl) (ev1 rfl)) ?_
    refine zab rfl rfl rfl (op_neq rfl (ev1 rfl) (ev1 rfl)) ?_
    refine zab rfl rfl rfl (zac (.inl rfl) (ev1 rfl)) ?_
    refine zai (gd_f rfl rfl rfl) rfl rfl rfl (zac (.inl rfl) (ev1 rfl)) ?_
    refine zai (gd_f rfl rfl rfl) rfl rfl rfl (zac (.inl rfl) (ev1 rfl)) ?_
    refine zai (gd_f rfl rfl rfl) rfl rfl rfl (zaj [] [] [] rfl (ev1 rfl) (ec (ev2 rfl) (ec (ev2 rfl) en)) rfl rfl (begins_d B (tileB (padT acc))) rfl rfl rfl rfl rfl rfl) ?_
    refine zai (gd_f rfl rfl rfl) rfl rfl rfl (op_not rfl (ev2 rfl)) ?_
    refine zab rfl rfl rfl (op_or rfl (ev1 rfl) (ev3 rfl id)) ?_
    refine zae ?_
    refine dwp_if_t rfl (by
  rw [← Bool.not_eq_false]
  intro g
  simp at g
  exact hc ⟨by have := g.1; omega, g.2⟩) ?_
    refine zaf ?_
    refine zad ?_
    refine zab rfl rfl rfl (op_build0a rfl ar29 zr29) ?_
    refine walk_s rfl rfl (op_stwa rfl tb29 (ev1 rfl) (ev1 rfl) rfl (tc_len _) (tc_oc _) ((tc_len _).trans (tc_len _).symm)) (by simp only [upd, za, zaa]; exact rfl) ?_
    refine zab rfl rfl rfl (zac (.inr rfl) (ev1 rfl)) ?_
    refine zae ?_
    refine dwp_ret ?_
    refine kend0 (rs2 rfl (rv_w tb29 rfl rfl (tc_len _)) (rv_t rfl)) rfl ?_
    rfl
end Go.Proofs.Ytcbfnbfhlofkiaa
