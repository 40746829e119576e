/- Values that came in and hold no address (numbers, bools, strings, and structs and arrays of these): their cells, opened; slices of such.  but the kernel's look at the type; Operations, one behind the other; a call by its contract; A region that draws its order: walked once, in the text's order. Conditions: the kernel's look at its edges; Operations: numbers, bools, structs, memory that is read and written. Conditions: what a type is, by the kernel; Operations that make memory, and write it. Conditions: what a type is, by the kernel; Operations on slices: made, cut, grown; tuples; function values; structs. Conditions: what a type is, by the kernel; Ends of calls; structs built; bools and strings compared; least and greatest; slices taken over, and given up. Conditions: what a type is, by the kernel; Functions that are deferred: a body up to there; closures that recover; results in cells; . No condition. -/
import Derived.Test.YtoffbkjhoelghaaQ4
import Derived.Test.YtoffbkjhoelghaaRows
namespace Go.Proofs.Ytoffbkjhoelghaa
theorem ya {p : Prop} [Decidable p] : decide p = false ↔ ¬p := _root_.decide_eq_false_iff_not
theorem yb {α : Type _} [BEq α] [LawfulBEq α] {a b : α} : (a == b) = false ↔ a ≠ b := _root_.beq_eq_false_iff_ne
theorem yc {α : Type _} [BEq α] [LawfulBEq α] {a b : α} : (a != b) = false ↔ a = b := _root_.bne_eq_false_iff_eq
theorem yd {x y : Bool} : (x || y) = false ↔ x = false ∧ y = false := _root_.Bool.or_eq_false_iff
theorem ye {b : Bool} : ((!b) = false) = (b = true) := by cases b <;> simp
theorem yf {b : Bool} : ((!b) = true) = (b = false) := by cases b <;> simp
theorem yg {p : Prop} [Decidable p] : (decide p = true) = p := _root_.decide_eq_true_eq
theorem yh {a b : Bool} : ((a && b) = true) = (a = true ∧ b = true) := _root_.Bool.and_eq_true a b
theorem yi {a b : Bool} : ((a || b) = true) = (a = true ∨ b = true) := _root_.Bool.or_eq_true a b
theorem yj {p : Prop} [Decidable p] : ¬¬p ↔ p := _root_.Decidable.not_not
set_option linter.unusedVariables false
set_option linter.unusedSimpArgs false
open Go.RowKit Go.Deep
section
variable {H : Type} {enc : TypeId × Value → H} {P : Program} {w : World} {base : Nat} {spare : Nat → Bool} {held : Bool}
/-- a row in memory: each element's cells -/
def rowsAt {α : Type} (w : World) (b off sz : Nat) (en : α → List Value) (l : List α) : Prop :=
  b < w.heap.size ∧ ∀ k (h : k < l.length) j, j < sz → w.cell? ⟨b, off + k * sz + j, none⟩ = (en l[k])[j]?
/-- a slice's place and length, and what it holds -/
def rowV {α : Type} (W : World) (a0 : Option Addr) (len sz : Nat) (en : α → List Value) (l : List α) : Prop := len = l.length ∧ (l = [] ∨ ∃ b off, a0 = some ⟨b, off, none⟩ ∧ rowsAt W b off sz en l)
theorem list_of' {α : Type} (n : Nat) (p : Nat → α → Prop) (h : ∀ i, i < n → ∃ c, p i c) : ∃ l : List α, l.length = n ∧ ∀ i (hi : i < l.length), p i l[i] := by
  induction n with
  | zero => exact ⟨[], rfl, fun i hi => absurd hi (by simp)⟩
  | succ n ih =>
    obtain ⟨l, hl, hp⟩ := ih fun i hi => h i (by omega)
    obtain ⟨c, hc⟩ := h n (by omega)
    refine ⟨l ++ [c], by simp [hl], fun i hi => ?_⟩
    by_cases e : i < l.length
    · rw [List.getElem_append_left e]; exact hp i e
    · have : i = n := by simp [hl] at hi; omega
      subst this
      simp [List.getElem_append_right (show l.length ≤ i by omega), hl, hc]
/-- A slice whose elements hold no address, opened. -/
theorem open_row {α : Type} {t e : TypeId} {ps : List Prim} (f : Nat) (en : α → List Value) (ok : α → Prop) (hP : ∀ cs, fitsP ps cs → ∃ a, ok a ∧ cs = en a) (ht : P.underlying t = some (.slice e)) (hf : flatT P f e = some ps) (hc : P.cellsOf e = ps.length) (hpos : 0 < ps.length)
    {a0 : Option Addr} {len cap : Nat} {d : DataW H} {p : List MemPlace} (h : DataW.Trod enc P w base spare held t (.slice a0 len cap) d p) :
    ∃ l, rowV w a0 len ps.length en l ∧ (∀ a ∈ l, ok a) ∧ len ≤ cap ∧ cap ≤ maxLen ∧ (a0 = none → cap = 0) := by
  obtain ⟨fuel, hfu⟩ := h
  rcases open_slice ht hfu with ⟨hcs, hx⟩ | ⟨a, len', cap', m, n, D, Pl, hcs, _, hl, hm, hmm, hx, hel⟩
  · simp [Value.cells] at hcs
    obtain ⟨rfl, rfl, rfl⟩ := hcs
    exact ⟨[], ⟨rfl, .inl rfl⟩, by simp, Nat.le_refl _, Nat.zero_le _, fun _ => rfl⟩
  · simp [Value.cells] at hcs
    obtain ⟨rfl, rfl, rfl⟩ := hcs
    have hlm : len ≤ m := by rw [hmm]; split <;> omega
    rw [hc] at hel
    obtain ⟨l, hll, hp⟩ := list_of' len (fun i (c : α) => ok c ∧ w.cells? base (a.add (i * ps.length)) ps.length = some (en c)) (by
      intro i hi
      obtain ⟨cs, h1, h2⟩ := hel i (by omega)
      obtain ⟨c, hok, rfl⟩ := hP cs (flat_trod f _ _ _ _ _ hf h2)
      exact ⟨c, hok, h1⟩)
    refine ⟨l, ⟨hll.symm, ?_⟩, ?_, hl, hm, fun e => by cases e⟩
    · by_cases h0 : l = []
      · exact .inl h0
      · right
        have hlp : 0 < l.length := List.length_pos_iff.2 h0
        obtain ⟨b, off, spot⟩ := a
        have hg := World.cells?_some (hp 0 hlp).2
        have hc0 := hg.2.2 0 hpos
        rw [List.getElem?_eq_getElem (by rw [hg.2.1]; exact hpos)] at hc0
        replace hc0 : ∃ v0, w.cell? (((⟨b, off, spot⟩ : Addr).add (0 * ps.length)).add 0) = some v0 := ⟨_, hc0⟩
        obtain ⟨v0, hc0⟩ := hc0
        have hs := World.cell?_spot hc0
        have hspot : spot = none := by simpa [Addr.add] using hs
        subst hspot
        have hpl : ∀ o k, (⟨b, o, none⟩ : Addr).add k = ⟨b, o + k, none⟩ := fun o k => by simp [Addr.add]
        refine ⟨b, off, rfl, ?_, fun k hk j hj => ?_⟩
        · rw [hpl, hpl] at hc0
          exact World.block_lt_of_cell? _ _ hc0
        · have := (World.cells?_some (hp k hk).2).2.2 j hj
          rw [hpl, hpl] at this
          exact this
    · intro c hcm
      obtain ⟨i, hi, rfl⟩ := List.getElem_of_mem hcm
      exact (hp i hi).1
end
open Go.RowKit
section
variable {P : Program} {s0 : St} {n : Cx} {ops : Array Oper}
theorem gd_ff {o : Oper} {F : Fr} {j t : Nat} {g b : Bool} (h : o.guard = some (j, false)) (ht : (ops[j]?).bind (·.dst) = some t) (hl : lk F t = some (.opt g (.val (.bool b)))) : Gd ops o F (g && !b) := by
  unfold Gd; rw [h]; exact ⟨t, g, b, ht, .inl hl, by simp⟩
end

/-! ### names turned back -/
/-- behind a guard that is known to hold -/
theorem lex_k {P : Program} {ops : Array Oper} {o : Oper} {rest : List Oper} {fp wi : List Nat} {fps : List (List Nat × List Nat)} {F : Fr} {M M' : List Blk} {Q : Fr → List Blk → Prop} {d : D} {t : Nat} {wr : List (Nat × Blk)} (hg : Gd ops o F true) (hn : o.guard.isSome = true) (hd : o.dst = some t) (h : DOp P true o F M fp d wr) (hw : wr.map (·.1) = wi) (hM : upd M wr = M')
    (hk : Lex P ops rest fps ((t, .opt true d) :: F) M' Q) : Lex P ops (o :: rest) ((fp, wi) :: fps) F M Q :=
by
  unfold Lex
  refine ⟨true, d, wr, hg, h, hw, (fun h => by cases h), ?_⟩
  unfold gdd
  cases e : o.guard with
  | none => rw [e] at hn; cases hn
  | some x => rw [hd, hM]; exact hk
section
variable {l : List Oper} {E : List Rc} {F : Fr} {M : List Blk}
end

/-! ### what a type is -/
section
variable {P : Program} {pc : Bool} {o : Oper} {F : Fr} {M : List Blk}
section
variable {T T' : TypeId} {x y : Operand} {k : IntKind} {p q : Int}
end
section
variable {T : TypeId} {x : Operand} {i p k : Nat} {L R : List Value} {v : Value}
theorem op_ldod (ho : o.op = .load T x) (hT : tyB P T = some (false, k)) (hx : Ev pc F x (.dpf L)) (hR : L[0]? = some v) : DOp P pc o F M [] (.val v) [] := by
  intro hp a s hok hops hfp
  have hr := ev_at hp hx (by simp [ho, Op.operands]) hops
  generalize hv : a.eval x = vx at hr
  cases hr with
  | @dpf b q _ hI h => exact dg_val hok (run_load_one ho hT hv (by simpa using h 0 v hR)) (.val _)
theorem op_fad {f q : Nat} (ho : o.op = .fieldAddr T x f) (hT : fdO P T f = some q) (hx : Ev pc F x (.dpf L)) : DOp P pc o F M [] (.dpf (L.drop q)) [] := by
  intro hp a s hok hops hfp
  have hr := ev_at hp hx (by simp [ho, Op.operands]) hops
  generalize hv : a.eval x = vx at hr
  cases hr with
  | @dpf b c _ hI h =>
    refine dg_val hok (run_fieldAddr ho hT hv) (.dpf hI fun j v hj => ?_)
    rw [List.getElem?_drop] at hj
    rw [Nat.add_assoc]
    exact h _ v hj
end
section
variable {T : TypeId} {x y : Operand} {i p n sz : Nat} {k : IntKind} {z : Int} {L : List Value}
variable {e : TypeId} {by' m : Nat}
end
end
section
variable {P : Program} {pc : Bool} {o : Oper} {F : Fr} {M : List Blk}
theorem op_stwb {T T' : TypeId} {x y : Operand} {i : Nat} {rw' : Bool} {z : Bool} {v : Value} (ho : o.op = .store T x y) (hT : tyB P T = some (rw', 1)) (hx : Ev pc F x (.loc i 0)) (hy : Ev pc F y (.val (.bool z))) (hM : M[i]? = some (.flat T' [v])) : DOp P pc o F M [i] .junk [(i, .flat T' [.bool z])] :=
  op_stw ho hT hx hy hM rfl rfl rfl rfl
end
section
variable {P : Program} {pc : Bool} {o : Oper} {F : Fr} {M : List Blk}
section
variable {T e : TypeId} {sz by' n : Nat} {ps : List (Nat × Operand)} {vs Z : List Value}
/-- .. as an array of its own, in the place j -/
theorem op_bsa (j : Nat) (ho : o.op = .buildSlice T n ps.toArray) (hT : slE P T = some (e, sz, by')) (hZ : zrC P e = some Z) (hi : ps.map (·.1) = List.range' 0 n) (hv : EvV pc F (ps.map (·.2)) vs) (hs : vs.all (fun v => v.cells.size == sz) = true) (hbig : n * sz ≤ 16777216) (hn : n ≤ 16777216) (hj : M[j]? = some .hole) :
    DOp P pc o F M [j] (.arr j) [(j, .arr e sz n (vs.flatMap fun v => v.cells.toList))] := by
  intro hp a s hok hops hfp
  have hs' : ∀ v ∈ vs, v.cells.size = sz := fun v hv => by simpa using List.all_eq_true.1 hs v hv
  have hvs := evV_ps hp ho hv hops
  have hlen : vs.length = n := by
    rw [← hvs, List.length_map, List.length_map]
    have := congrArg List.length hi
    simpa using this
  have hj' : s.M[j]? = some .hole := by rw [hfp j (by simp)]; exact hj
  have hjl : j < s.β.length := by rw [hok.len]; exact (List.getElem?_eq_some_iff.1 hj').1
  have hrun := run_buildSlice (P := P) (w := s.w) ho hT hZ hi hvs hs' hbig
  refine dg_step (s' := ⟨s.β.set j (.slice (some ⟨s.w.heap.size, 0, none⟩) n n), s.I, s.M.set j (.arr e sz n (vs.flatMap fun v => v.cells.toList)), _⟩) hrun (tr_new hok hj' _ _ _ (by simp) (fun b hb => by cases hb; rfl) (fun b h => Below.heap_alloc _ _ _ h) (fun b hb => by cases hb; simp) (by simp) rfl rfl rfl ?_) rfl (.arr (by simp [hjl]))
  have := World.ownsRow_lit (base := 0) (e := e) (size := sz) s.w (vs.flatMap fun v => v.cells.toList).toArray n (Nat.zero_le _) (by unfold maxLen; omega) (by simp only [List.size_toArray]; rw [cells_sum hs', hlen])
  exact this
end

/-! ### append -/
end
section
variable {P : Program} {fn : Func} {F : Fr} {M : List Blk} {t u v : Tmp} {d d' e f dr : D}
end
section
variable {P : Program} {pc : Bool} {o : Oper} {F : Fr} {M : List Blk}

/-! ### structs built -/
theorem op_neb {T T' : TypeId} {x y : Operand} {p q : Bool} (ho : o.op = .binOp .neq T x y T') (hT : P.underlying T = some .bool) (hx : Ev pc F x (.val (.bool p))) (hy : Ev pc F y (.val (.bool q))) : DOp P pc o F M [] (.val (.bool (p != q))) [] :=
  op_nev ho hx hy (fun w => by unfold eqGuard; rfl) fun w => by
    have h : ∀ d, (Op.equalIn (d + 1) T (.bool p) (.bool q)).run P w = .ok (p == q) w := fun d => by simp [Op.equalIn, run_underlying hT]
    show (do pure (Value.bool (!(← Op.equalIn (9999 + 1) T (.bool p) (.bool q)))) : Sem Value).run P w = _
    rw [Sem.run_bind, h 9999]; rfl
end
section
variable {P : Program} {s0 : St} {n : Cx}
end
section
variable {P : Program} {s0 : St} {n : Cx}
end
section
variable {P : Program}
section
variable {fn : Func} {F : Fr} {M : List Blk} {r1 r2 r3 r4 : ResultVar} {d1 d2 d3 d4 d : D}
/-- one cell -/
theorem rv_1 {p : Tmp} {T T' : TypeId} {i k : Nat} {v : Value} {L : List Value} (hT : tyB P T = some (false, k)) (h : lk F p = some (.loc i 0)) (hM : M[i]? = some (.flat T' L)) (hl : L[0]? = some v) : RvD P (.cell p T) F M (.val v) := fun s a ho hMs hF => by
  subst hMs
  have hv := hF p _ h
  generalize hvx : slot a p = vx at hv
  cases hv with
  | @loc _ _ b hb =>
    obtain ⟨b', e1, e2⟩ := ho.blk i _ _ hM hb
    cases e1
    obtain ⟨dd, ii, h1, h2, h3, h4⟩ := tyB_spec hT
    refine ⟨v, ?_, .val _⟩
    have hvx' : a.tmps.getD p undef = .pointer (some ⟨b, 0, none⟩) := hvx
    have hc : s.w.cell? ⟨b, 0, none⟩ = some v := by rw [cell_of_row s.w b 0 L.toArray T' (0, 0) e2]; simpa using hl
    have hagg : (isAgg T).run P s.w = .ok false s.w := by
      unfold isAgg
      rw [Sem.run_bind, run_underlying h1]
      cases dd <;> simp_all [TypeDesc.isRow]
    simp only [rv, hvx']
    simp [asAddr, loadVar, Sem.run_bind, hagg, load, Sem.run, hc]
end

/-! ### interfaces, panics -/
section
variable {pc : Bool} {o : Oper} {F : Fr} {M : List Blk}
end
end
section
variable {P : Program} {s0 : St} {n : Cx}
variable {ops : Array Oper}
/-- is a slice nil? -/
theorem walk_nil? {o : Oper} {rest : List Oper} {F : Fr} {M : List Blk} {K : Cont} {T T' e : TypeId} {sz by' m t : Nat} {L : List Value} {x : Operand} (hg : o.guard = none) (hd : o.dst = some t) (ht : Nat.blt t n.n = true) (ho : o.op = .binOp .eql T x (.const (.slice none 0 0)) T') (hT : slE P T = some (e, sz, by')) (hx : Ev true F x (.slf sz m L))
    (hk : ∀ b, (b = true → m = 0 ∧ L = []) → Walk P s0 n ops rest ((t, .val (.bool b)) :: F) M K) : Walk P s0 n ops (o :: rest) F M K := by
  intro a w hi
  have hi' := hi
  obtain ⟨h0, s, h1, h2, h3, h4, h5, h6⟩ := hi
  obtain ⟨dx, ex1, ex2⟩ := hx
  have hrx := ex2 s _ rfl (ev_rep h4 ex1)
  generalize hvx : a.eval x = vx at hrx
  cases hrx with
  | @slf _ _ cap ad _ hl hn hc ha hm =>
    obtain ⟨hu, _⟩ := slE_spec hT
    have hrun : (execOp a.eval o).run P w = .ok (.value (.bool ad.isNone)) w := by
      unfold execOp
      simp only [ho]
      have hv : a.eval (.const (.slice none 0 0)) = .slice none 0 0 := rfl
      rw [hv, hvx]
      refine run_v ?_
      simp only [eqGuard, binOp, Sem.run_bind]
      have heq : ∀ d, (Op.equalIn (d + 1) T (.slice ad m cap) (.slice none 0 0)).run P w = .ok ad.isNone w := fun d => by
        unfold Op.equalIn
        rw [Sem.run_bind, run_underlying hu]
        cases ad <;> simp
      have heq' : (Op.equalIn Op.maxDepth T (.slice ad m cap) (.slice none 0 0)).run P w = .ok ad.isNone w := heq 9999
      simp [Op.equal, heq', Sem.run_bind, go_sem]
    have hfin := hk ad.isNone (fun hb => by
      cases ad with
      | none => have := ha rfl; exact ⟨by omega, List.eq_nil_of_length_eq_zero (by rw [hl, show m = 0 by omega]; simp)⟩
      | some q => cases hb) (a.put o.dst (.bool ad.isNone)) w (by
        obtain ⟨h0, s, h1, h2, h3, h4, h5, h6⟩ := hi'
        refine ⟨h0, s, h1, h2, h3, ?_, by rw [put_size]; exact h5, by rw [put_def]; exact h6⟩
        rw [hd]
        exact h4.put (by rw [h5]; exact Nat.blt_eq.mp ht) (.val _))
    show if Region.wanted o (yielded ops a.tmps) then _ else _
    have hw : Region.wanted o (yielded ops a.tmps) = true := by unfold Region.wanted; rw [hg]
    rw [if_pos hw]
    refine ⟨fun _ _ => trivial, ?_⟩
    rw [semAt_noDef (by rw [ho]; rfl), hrun]
    exact hfin
end
section
variable {P : Program} {pc : Bool} {o : Oper} {F : Fr} {M : List Blk} {α : Type} {en : α → List Value} {T T' e : TypeId} {sz by' k n i j : Nat} {l : List α} {x y : Operand}
end
def rst : Bool → LoopState
  | true => .ready
  | false => .done
def rpe (c : Code) : Bool → Option Code
  | true => none
  | false => some c
theorem rst_busy (r : Bool) : rst r ≠ .busy := by cases r <;> simp [rst]
section
variable {P : Program} {s0 : St} {n : Cx}
end
open Go.ChangeShapes Go.WideShapes Go.ChangeAt Go.RowKit Go.Joins Go.Deep
set_option maxRecDepth 100000
section
variable {H : Type} {enc : TypeId × Value → H} {w : World} {base b0 : Nat} {r : Reach} {spare : Nat → Bool} {held : Bool} {v : Value} {d : DataW H} {p : List MemPlace}
theorem rep_row {α : Type} {W : World} {a : Option Addr} {n cap sz : Nat} {en : α → List Value} {l : List α} (hx : rowV W a n sz en l) (hc : n ≤ cap) (hm : cap ≤ maxLen) (hnil : a = none → cap = 0) (hen : ∀ a, (en a).length = sz) : Rep (st0 W) (.slf sz l.length (l.flatMap en)) (.slice a n cap) := by
  obtain ⟨rfl, hx⟩ := hx
  refine .slf (flat_len hen l) hc hm hnil ?_
  rcases hx with rfl | ⟨b, off, rfl, hlt, hcell⟩
  · exact .inl rfl
  · refine .inr ⟨b, off, rfl, hlt, fun j u hj => ?_⟩
    show W.cell? ⟨b, off + j, none⟩ = some u
    have hjl : j < l.length * sz := by rw [← flat_len hen l]; exact (List.getElem?_eq_some_iff.1 hj).1
    have hsz : 0 < sz := by
      rcases Nat.eq_zero_or_pos sz with e | e
      · rw [e] at hjl; omega
      · exact e
    have hq : j / sz < l.length := (Nat.div_lt_iff_lt_mul hsz).2 hjl
    have hr := Nat.mod_lt j hsz
    have e : j = j / sz * sz + j % sz := by rw [Nat.mul_comm]; exact (Nat.div_add_mod j sz).symm
    rw [e, flat_cell hen hq hr] at hj
    have := hcell (j / sz) hq (j % sz) hr
    rw [hj] at this
    rw [e, ← Nat.add_assoc]
    exact this
end
section
variable {P : Program} {s0 : St} {n : Cx}
end
section
variable {P : Program} {pc : Bool} {o : Oper} {F : Fr} {M : List Blk} {T T' : TypeId} {x y : Operand} {i n sz : Nat} {k : IntKind} {z : Int} {α : Type} {en : α → List Value} {l : List α} {j : Nat}
end
section
variable {P : Program} {pc : Bool} {o : Oper} {F : Fr} {M : List Blk}
/-- something with addresses, into a variable that had none -/
theorem op_stfm {T T' : TypeId} {x y : Operand} {i p : Nat} {rw' : Bool} {d : D} {L : List Value} (ho : o.op = .store T x y) (hT : tyB P T = some (rw', 1)) (hx : Ev pc F x (.loc i p)) (hy : Ev pc F y d) (h1 : ∀ (s : St) v, Rep s d v → v.cells = #[v] ∧ v.oneCell' = true) (hM : M[i]? = some (.flat T' L)) (hfit : p < L.length) : DOp P pc o F M [i] .junk [(i, .mix T' ((L.map .val).set p d))] := by
  intro hp a s hok hops hfp
  have hr := ev_at hp hx (by simp [ho, Op.operands]) hops
  have hry := ev_at hp hy (by simp [ho, Op.operands]) hops
  obtain ⟨hc1, hc2⟩ := h1 s _ hry
  have hM' : s.M[i]? = some (.flat T' L) := by rw [hfp i (by simp)]; exact hM
  generalize hv : a.eval x = vx at hr
  cases hr with
  | @loc _ _ b h =>
    obtain ⟨b', e1, e2⟩ := hok.blk i _ _ hM' h
    cases e1
    obtain ⟨vs, hvs⟩ : ∃ vs, vs = L := ⟨_, rfl⟩
    rw [← hvs] at e2 hfit
    have e3 : vs.length = (L.map D.val).length := by rw [hvs]; simp
    have e4 : ∀ (j : Nat) d v, (L.map D.val)[j]? = some d → vs[j]? = some v → Rep s d v := fun j d v h1 h2 => by
      rw [hvs] at h2
      simp [h2] at h1
      subst h1
      exact .val _
    have hcell := cellsAt_block e2 0
    have hrun := run_store (P := P) (w := s.w) (C := [a.eval y]) ho hT hv rfl (by rw [hc1]) rfl (fun j hj => by
        have hj0 : j = 0 := by simp at hj; exact hj
        subst hj0
        have hp' : p < vs.length := by omega
        have := hcell p vs[p] (by simp [hp'])
        rw [Nat.zero_add] at this
        rw [Nat.add_zero, this]; rfl) (fun j hj => by simp [World.frozen?, e2]) (fun u hu => by rw [List.mem_singleton.1 hu]; exact hc2)
    refine dg_skip (s' := ⟨s.β.set i (.pointer (some ⟨b, 0, none⟩)), s.I, s.M.set i (.mix T' ((L.map .val).set p d)), s.w.setCells b p [a.eval y]⟩) hrun (tr_store hok hM' rfl h rfl p _ ?_) rfl
    refine ⟨b, vs.set p (a.eval y), rfl, setCells_block b _ p s.w vs T' e2, by simp [e3], fun j e v hj hv' => ?_⟩
    have hβ : s.β.set i (.pointer (some ⟨b, 0, none⟩)) = s.β := by
      apply List.ext_getElem?
      intro k
      by_cases e : i = k
      · subst e; rw [List.getElem?_set_self (List.getElem?_eq_some_iff.1 h).1, h]
      · rw [List.getElem?_set_ne e]
    have lift : ∀ {e : D} {v : Value}, Rep s e v → Rep ⟨s.β.set i (.pointer (some ⟨b, 0, none⟩)), s.I, s.M.set i (.mix T' ((L.map .val).set p d)), s.w.setCells b p [a.eval y]⟩ e v := by
      intro e v hr
      refine Rep.mono' (s := s) (s' := ⟨s.β.set i (.pointer (some ⟨b, 0, none⟩)), s.I, s.M.set i (.mix T' ((L.map .val).set p d)), s.w.setCells b p [a.eval y]⟩) (fun k x hk _ => by show (s.β.set i _)[k]? = _; rw [hβ]; exact hk) (fun _ h => h) (fun b' hI => setCells_other b _ p s.w b' fun e => ?_) hr
      subst e
      exact (hok.lt b' (live_of hM' rfl h rfl)).2 hI
    by_cases e' : p = j
    · subst e'
      rw [List.getElem?_set_self (by omega)] at hj
      rw [List.getElem?_set_self (by omega)] at hv'
      cases hj; cases hv'
      exact lift hry
    · rw [List.getElem?_set_ne e'] at hj hv'
      exact lift (e4 j e v hj hv')
end
section
variable {P : Program} {s0 : St} {n : Cx}
end
/-- a nil slice, as a row without elements -/
theorem rep_nils {s : St} {v : Value} (sz : Nat) (h : Rep s (.val (.slice none 0 0)) v) : Rep s (.slf sz 0 []) v := by
  cases h; exact .slf (by simp) (Nat.le_refl _) (Nat.zero_le _) (fun _ => rfl) (.inl rfl)
theorem evnil {pc : Bool} {F : Fr} {x : Operand} (sz : Nat) (h : Ev pc F x (.val (.slice none 0 0))) : Ev pc F x (.slf sz 0 []) := by
  obtain ⟨d, h1, h2⟩ := h
  exact ⟨d, h1, fun s v hp hr => rep_nils sz (h2 s v hp hr)⟩
section
variable {P : Program} {pc : Bool} {o : Oper} {F : Fr} {M : List Blk}
end
/-- cells that read as data, side by side, at the start -/
def Opens (P : Program) (w : World) {α : Type} (t : TypeId) (mk : α → List D) (ok : α → Prop) : Prop :=
  ∀ (H : Type) (enc : TypeId × Value → H) (base : Nat) (spare : Nat → Bool) (held : Bool) (n : Nat) (cs : List Value) (x : DataW H × List MemPlace), DataW.trod enc P w base spare held n t cs = some x → ∃ a, ok a ∧ Reps (st0 w) (mk a) cs
section
variable {P : Program} {w : World}
theorem reps_app2 {s : St} {d1 d2 : List D} {v1 v2 : List Value} (h1 : Reps s d1 v1) (h2 : Reps s d2 v2) : Reps s (d1 ++ d2) (v1 ++ v2) := by
  refine ⟨by simp [h1.1, h2.1], fun j d v hd hv => ?_⟩
  by_cases hj : j < d1.length
  · rw [List.getElem?_append_left hj] at hd
    rw [List.getElem?_append_left (by rw [h1.1]; exact hj)] at hv
    exact h1.2 j d v hd hv
  · rw [List.getElem?_append_right (by omega)] at hd
    rw [List.getElem?_append_right (by rw [h1.1]; omega), h1.1] at hv
    exact h2.2 _ d v hd hv
/-- a slice whose elements hold no address -/
theorem opens_row {α : Type} {t e : TypeId} {ps : List Prim} (f : Nat) (en : α → List Value) (ok : α → Prop) (hP : ∀ cs, fitsP ps cs → ∃ a, ok a ∧ cs = en a) (ht : P.underlying t = some (.slice e)) (hf : flatT P f e = some ps) (hc : P.cellsOf e = ps.length) (hpos : 0 < ps.length)
    (hen : ∀ a, (en a).length = ps.length) : Opens P w t (fun l : List α => [.slf ps.length l.length (l.flatMap en)]) (fun l => ∀ a ∈ l, ok a) := by
  intro H enc base spare held n cs x hx
  have hone : ∃ a len cap, cs = [.slice a len cap] := by
    rcases open_slice ht hx with ⟨hcs, _⟩ | ⟨a, len', cap', _, _, _, _, hcs, _⟩
    · exact ⟨_, _, _, hcs⟩
    · exact ⟨_, _, _, hcs⟩
  obtain ⟨a, len, cap, rfl⟩ := hone
  obtain ⟨l, h1, h2, h3, h4, h5⟩ := open_row f en ok hP ht hf hc hpos (d := x.1) (p := x.2) (show DataW.Trod enc P w base spare held t (.slice a len cap) x.1 x.2 from ⟨n, hx⟩)
  exact ⟨l, h2, reps_cons (rep_row h1 h3 h4 h5 hen) reps_nil⟩
theorem reps_flat {α : Type} {s : St} {mk : α → List D} : ∀ (l : List α) (css : List (List Value)), css.length = l.length → (∀ (i : Nat) (h : i < l.length) (h2 : i < css.length), Reps s (mk l[i]) css[i]) → Reps s (l.flatMap mk) css.flatten
  | [], [], _, _ => reps_nil
  | a :: l, cs :: css, hl, h => by
    rw [List.flatMap_cons, List.flatten_cons]
    exact reps_app2 (h 0 (by simp) (by simp)) (reps_flat l css (by simpa using hl) fun i h1 h2 => h (i + 1) (by simpa using h1) (by simpa using h2))
  | [], _ :: _, h, _ => by simp at h
  | _ :: _, [], h, _ => by simp at h
theorem nlL_app : ∀ {a b : List D}, D.nlL a = true → D.nlL b = true → D.nlL (a ++ b) = true
  | [], _, _, h => h
  | d :: a, b, h, h' => by
    rw [D.nlL, Bool.and_eq_true] at h
    rw [List.cons_append, D.nlL, h.1, nlL_app h.2 h']
    rfl
theorem nlL_flat {α : Type} {mk : α → List D} (h : ∀ a, D.nlL (mk a) = true) : ∀ l : List α, D.nlL (l.flatMap mk) = true
  | [] => rfl
  | a :: l => by rw [List.flatMap_cons]; exact nlL_app (h a) (nlL_flat h l)
theorem flatM_len {α β : Type} {en : α → List β} {sz : Nat} (hen : ∀ a, (en a).length = sz) : ∀ l : List α, (l.flatMap en).length = l.length * sz
  | [] => by simp
  | a :: l => by rw [List.flatMap_cons, List.length_append, hen, flatM_len hen l, List.length_cons, Nat.succ_mul]; omega
/-- a slice of whatever opens -/
theorem opens_rows {α : Type} {t e : TypeId} {sz : Nat} {mk : α → List D} {ok : α → Prop} (he : Opens P w e mk ok) (ht : P.underlying t = some (.slice e)) (hc : P.cellsOf e = sz) (hpos : 0 < sz) (hmk : ∀ a, (mk a).length = sz) (hnl : ∀ a, D.nlL (mk a) = true) :
    Opens P w t (fun l : List α => [.slm sz l.length (l.flatMap mk)]) (fun l => ∀ a ∈ l, ok a) := by
  intro H enc base spare held n cs x hx
  rcases open_slice ht hx with ⟨hcs, _⟩ | ⟨a, len, cap, m, n', D', Pl, hcs, _, hl, hm, hmm, _, hel⟩
  · subst hcs
    exact ⟨[], by simp, reps_cons (.slm (vs := []) rfl (by simp) (Nat.le_refl _) (Nat.zero_le _) (fun _ => rfl) rfl (fun j d v hd => by simp at hd) (.inl rfl)) reps_nil⟩
  · subst hcs
    have hlm : len ≤ m := by rw [hmm]; split <;> omega
    rw [hc] at hel
    obtain ⟨l, hll, hp⟩ := list_of' len (fun i (c : α × List Value) => ok c.1 ∧ Reps (st0 w) (mk c.1) c.2 ∧ w.cells? base (a.add (i * sz)) sz = some c.2) (by
      intro i hi
      obtain ⟨cs, h1, h2⟩ := hel i (by omega)
      obtain ⟨c, hok, hr⟩ := he H enc base spare held _ cs _ h2
      exact ⟨(c, cs), hok, hr, h1⟩)
    refine ⟨l.map (·.1), fun c hcm => ?_, reps_cons ?_ reps_nil⟩
    · obtain ⟨q, hq, rfl⟩ := List.mem_map.1 hcm
      obtain ⟨i, hi, rfl⟩ := List.getElem_of_mem hq
      exact (hp i hi).1
    · have hreps : Reps (st0 w) ((l.map (·.1)).flatMap mk) (l.map (·.2)).flatten := reps_flat _ _ (by simp) fun i h1 h2 => by
        simp only [List.getElem_map]
        exact (hp i (by simpa using h1)).2.1
      have hlen : (l.map (·.1)).length = len := by simp [hll]
      have hflat : ((l.map (·.1)).flatMap mk).length = len * sz := by rw [flatM_len hmk, hlen]
      have hcslen : ∀ i (h : i < l.length), (l[i].2).length = sz := fun i h => ((World.cells?_some (hp i h).2.2).2.1)
      rw [hlen]
      refine .slm (vs := (l.map (·.2)).flatten) (nlL_flat hnl _) hflat hl hm (fun e => by cases e) hreps.1 hreps.2 ?_
      by_cases h0 : l = []
      · left; subst h0; rfl
      · right
        have hlp : 0 < l.length := List.length_pos_iff.2 h0
        obtain ⟨b, off, spot⟩ := a
        have hg := World.cells?_some (hp 0 hlp).2.2
        have hc0 := hg.2.2 0 hpos
        rw [List.getElem?_eq_getElem (by rw [hg.2.1]; exact hpos)] at hc0
        replace hc0 : ∃ v0, w.cell? (((⟨b, off, spot⟩ : Addr).add (0 * sz)).add 0) = some v0 := ⟨_, hc0⟩
        obtain ⟨v0, hc0⟩ := hc0
        have hs := World.cell?_spot hc0
        have hspot : spot = none := by simpa [Addr.add] using hs
        subst hspot
        have hpl : ∀ o k, (⟨b, o, none⟩ : Addr).add k = ⟨b, o + k, none⟩ := fun o k => by simp [Addr.add]
        rw [hpl, hpl] at hc0
        refine ⟨b, off, rfl, World.block_lt_of_cell? _ _ hc0, fun j u hj => ?_⟩
        show w.cell? ⟨b, off + j, none⟩ = some u
        have hfl : ∀ q : α × List Value, q ∈ l → q.2.length = sz := fun q hq => by
          obtain ⟨i, hi, rfl⟩ := List.getElem_of_mem hq
          exact hcslen i hi
        have key : ∀ (l' : List (α × List Value)), (∀ q ∈ l', q.2.length = sz) → ∀ j u, ((l'.map (·.2)).flatten)[j]? = some u → ∃ (i : Nat) (h : i < l'.length), j / sz = i ∧ (l'[i].2)[j % sz]? = some u := by
          intro l'
          induction l' with
          | nil => intro _ j u h; simp at h
          | cons q l' ih =>
            intro hq j u h
            have hq0 := hq q (List.mem_cons_self ..)
            rw [List.map_cons, List.flatten_cons] at h
            by_cases hj : j < sz
            · rw [List.getElem?_append_left (by omega)] at h
              exact ⟨0, by simp, Nat.div_eq_of_lt hj, by rw [Nat.mod_eq_of_lt hj]; exact h⟩
            · rw [List.getElem?_append_right (by omega), hq0] at h
              obtain ⟨i, hi, e1, e2⟩ := ih (fun q' hq' => hq q' (List.mem_cons_of_mem _ hq')) _ _ h
              refine ⟨i + 1, by simpa using hi, ?_, ?_⟩
              · rw [← e1, ← Nat.add_div_right _ hpos, Nat.sub_add_cancel (by omega)]
              · rw [Nat.mod_eq_sub_mod (by omega)]
                simpa using e2
        obtain ⟨i, hi, e1, e2⟩ := key l hfl j u hj
        have hr := Nat.mod_lt j hpos
        have h3 := (World.cells?_some (hp i hi).2.2).2.2 (j % sz) hr
        rw [hpl, hpl, e2] at h3
        have e : i * sz + j % sz = j := by rw [← e1, Nat.mul_comm]; exact Nat.div_add_mod j sz
        rw [Nat.add_assoc, e] at h3
        exact h3
end
/-- an argument that opens -/
theorem open_any {H : Type} {enc : TypeId × Value → H} {w : World} {base : Nat} {spare : Nat → Bool} {held : Bool} {α : Type} {t : TypeId} {mk : α → D} {ok : α → Prop} {v : Value} {d : DataW H} {p : List MemPlace} (ho : Opens Try.prog w t (fun a => [mk a]) ok) (hv : v.cells = #[v]) (h : DataW.Trod enc Try.prog w base spare held t v d p) :
    ∃ a, ok a ∧ Rep (st0 w) (mk a) v := by
  obtain ⟨fuel, hfu⟩ := h
  obtain ⟨a, hok, hr⟩ := ho H enc base spare held _ _ _ hfu
  rw [hv] at hr
  exact ⟨a, hok, hr.2 0 _ _ rfl rfl⟩
section
variable {P : Program} {pc : Bool} {o : Oper} {F : Fr} {M : List Blk}
theorem rep_own_cells {s : St} {i sz p n : Nat} {v : Value} (h : Rep s (.own i sz p n) v) : v.cells = #[v] := by cases h <;> rfl
theorem arx_cells {s : St} (hok : Ok s) {i : Nat} {T' : TypeId} {sz n n' c b : Nat} {l : List D} (h1 : s.M[i]? = some (.arx T' sz n l)) (h2 : s.β[i]? = some (.slice (some ⟨b, 0, none⟩) n' c)) : n' = n ∧ l.length = n * sz ∧ n ≤ c ∧ c ≤ maxLen ∧ ∃ vs : List Value, vs.length = l.length ∧ cellsAt s.w b 0 vs ∧ ∀ (j : Nat) d v, l[j]? = some d → vs[j]? = some v → Rep s d v := by
  obtain ⟨vs, hk, q3, q4⟩ := hok.blk i _ _ h1 h2
  rcases hk.2 with ⟨e1, e2⟩ | ⟨g, cap, cur, e1, e2, e3, e4, e5, e6, e7⟩
  · cases e1
  · cases e1
    have hc0 := cellsAt_sub (cellsAt_block e3 0) 0 (n * sz)
    exact ⟨rfl, by rw [← q3]; exact hk.1, e4, e5, vs, q3, by simpa [e7] using hc0, q4⟩
/-- an element's place -/
theorem op_ixx {T T' e : TypeId} {x y : Operand} {i sz by' n : Nat} {l : List D} {k : IntKind} {z : Int} (j : Nat) (ho : o.op = .indexAddr T x y) (hT : slE P T = some (e, sz, by')) (hx : Ev pc F x (.arr i)) (hy : Ev pc F y (.val (.int k z))) (hM : M[i]? = some (.arx T' sz n l)) (hz : pc = true → z = (j : Int)) (hj : pc = true → j < n) : DOp P pc o F M [i] (.aloc i (j * sz)) [] := by
  intro hp a s hok hops hfp
  have hr := ev_at hp hx (by simp [ho, Op.operands]) hops
  have h2 := (ev_at hp hy (by simp [ho, Op.operands]) hops).val_eq
  have hz := hz hp
  have hj := hj hp
  subst hz
  generalize hv : a.eval x = vx at hr
  cases hr with
  | @arr _ ad n' c hb =>
    have hM' : s.M[i]? = some (.arx T' sz n l) := by rw [hfp i (by simp)]; exact hM
    obtain ⟨vs, hk, _⟩ := hok.blk i _ _ hM' hb
    rcases hk.2 with ⟨e1, e2⟩ | ⟨g, cap, cur, e1, e2, e3, e4, e5, e6, e7⟩
    · exfalso; omega
    · cases e1
      refine dg_val hok (run_index_sl ho hT hv h2 (by omega) (by omega)) ?_
      rw [Addr.add_mid, Nat.zero_add, Int.toNat_natCast]
      exact .aloc hb
/-- an element of one cell -/
theorem op_ldx {T T' : TypeId} {x : Operand} {i p k sz n : Nat} {l : List D} {d : D} (ho : o.op = .load T x) (hT : tyB P T = some (false, k)) (hx : Ev pc F x (.aloc i p)) (hM : M[i]? = some (.arx T' sz n l)) (hR : l[p]? = some d) : DOp P pc o F M [i] d [] := by
  intro hp a s hok hops hfp
  have hr := ev_at hp hx (by simp [ho, Op.operands]) hops
  generalize hv : a.eval x = vx at hr
  cases hr with
  | @aloc _ _ n' c b h =>
    obtain ⟨_, hl, _, _, vs, q3, hc, q4⟩ := arx_cells hok (by rw [hfp i (by simp)]; exact hM) h
    have hpl : p < l.length := (List.getElem?_eq_some_iff.1 hR).1
    have hv' : vs[p]? = some vs[p] := List.getElem?_eq_getElem (by omega)
    exact dg_val hok (run_load_one ho hT hv (by simpa using hc p _ hv')) (q4 p d _ hR hv')
/-- made of data, each of one cell -/
theorem op_bsx {T e : TypeId} {n by' : Nat} {Z : List Value} {ps : List (Nat × Operand)} {ds : List D} (j : Nat) (h1 : ∀ (s : St) d v, d ∈ ds → Rep s d v → v.cells = #[v]) (ho : o.op = .buildSlice T n ps.toArray) (hT : slE P T = some (e, 1, by')) (hZ : zrC P e = some Z) (hi : ps.map (·.1) = List.range' 0 n) (hv : EvL pc F (ps.map (·.2)) ds) (hn : n ≤ 16777216) (hj : M[j]? = some .hole) :
    DOp P pc o F M [j] (.arr j) [(j, .arx e 1 n ds)] := by
  intro hp a s hok hops hfp
  obtain ⟨r1, r2⟩ := evL_reps (a := a) (s := s) hp _ _ hv (fun x hx => hops x (by rw [ho]; simpa [Op.operands] using hx))
  obtain ⟨vs, hvs⟩ : ∃ vs, vs = (ps.map (·.2)).map a.eval := ⟨_, rfl⟩
  rw [← hvs] at r1 r2
  have hcell : ∀ v ∈ vs, v.cells = #[v] := fun v hv' => by
    obtain ⟨j, hj, rfl⟩ := List.getElem_of_mem hv'
    have hj2 : j < ds.length := by omega
    exact h1 s _ _ (List.getElem_mem hj2) (r2 j _ _ (List.getElem?_eq_getElem hj2) (List.getElem?_eq_getElem hj))
  have hlen : vs.length = n := by
    rw [hvs, List.length_map, List.length_map]
    have := congrArg List.length hi
    simpa using this
  have hflat : ∀ us : List Value, (∀ v ∈ us, v.cells = #[v]) → (us.flatMap fun v => v.cells.toList) = us := fun us h => by
    induction us with
    | nil => rfl
    | cons u us ih => rw [List.flatMap_cons, h u (List.mem_cons_self ..), ih fun v hv => h v (List.mem_cons_of_mem _ hv)]; rfl
  have hrun := run_buildSlice (P := P) (w := s.w) ho hT hZ hi hvs.symm (fun v hv => by rw [hcell v hv]; rfl) (by omega)
  rw [hflat vs hcell] at hrun
  have hj' : s.M[j]? = some .hole := by rw [hfp j (by simp)]; exact hj
  have hjl : j < s.β.length := by rw [hok.len]; exact (List.getElem?_eq_some_iff.1 hj').1
  have hmono := step_imm hok (.cells vs.toArray e)
  refine dg_step (s' := ⟨s.β.set j (.slice (some ⟨s.w.heap.size, 0, none⟩) n n), s.I, s.M.set j (.arx e 1 n ds), _⟩) hrun (tr_new hok hj' _ _ _ (by simp) (fun b hb => by cases hb; rfl) (fun b h => Below.heap_alloc _ _ _ h) (fun b hb => by cases hb; simp) (by simp) rfl rfl rfl ?_) rfl (.arr (by simp [hjl]))
  have hrow := World.ownsRow_lit (base := 0) (e := e) (size := 1) s.w vs.toArray n (Nat.zero_le _) (by unfold maxLen; omega) (by simp [hlen])
  refine ⟨vs, by simpa using hrow, r1, fun j' d v h2 h3 => ?_⟩
  refine Rep.mono' (s := s) (s' := ⟨s.β.set j (.slice (some ⟨s.w.heap.size, 0, none⟩) n n), s.I, s.M.set j (.arx e 1 n ds), s.w.alloc (.cells vs.toArray e)⟩) (fun i h hi hne => ?_) (fun _ h => h) (fun b hb => Below.heap_alloc _ _ _ (hok.il b hb)) (r2 j' d v h2 h3)
  by_cases e' : i = j
  · subst e'
    exact absurd (hok.blk i _ h hj' hi) hne
  · rw [List.getElem?_set_ne (Ne.symm e')]; exact hi
end
section
variable {P : Program} {s0 : St} {n : Cx}
theorem inv_adoptx {F : Fr} {M : List Blk} {a : Act} {w : World} {t : Nat} (e : TypeId) (sz : Nat) (h : Inv s0 n F M a w) (ht : lk F t = some (.val (.slice none 0 0))) : Inv s0 n ((t, .arr M.length) :: F) (M ++ [.arx e sz 0 []]) a w := by
  obtain ⟨h0, s, rfl, rfl, h3, h4, h5, h6⟩ := h
  have t1 := step_hole h3.ok
  have hlen := h3.ok.len
  have hn : (s.M ++ [Blk.hole])[s.M.length]? = some .hole := by simp
  have t2 : Tr ⟨s.β ++ [Value.nilFunc], s.I, s.M ++ [Blk.hole], s.w⟩ ⟨(s.β ++ [Value.nilFunc]).set s.M.length (.slice none 0 0), s.I, (s.M ++ [Blk.hole]).set s.M.length (.arx e sz 0 []), s.w⟩ :=
    tr_new (s := ⟨s.β ++ [Value.nilFunc], s.I, s.M ++ [Blk.hole], s.w⟩) t1.ok (j := s.M.length) hn (.slice none 0 0) (.arx e sz 0 []) s.w (by simp) (fun b hb => by cases hb) (fun b _ => rfl) (fun b hb => by cases hb) (Nat.le_refl _) rfl rfl rfl ⟨[], World.ownsRow_nil s.w 0 e sz, rfl, fun j d v h => by simp at h⟩
  have tt := t1.trans t2
  refine ⟨h0, ⟨(s.β ++ [Value.nilFunc]).set s.M.length (.slice none 0 0), s.I, (s.M ++ [Blk.hole]).set s.M.length (.arx e sz 0 []), s.w⟩, by simp, rfl, h3.trans tt, fun x d hd => ?_, h5, h6.mono h3.ok tt⟩
  rw [lk_cons] at hd
  split at hd
  · rename_i e'
    subst e'
    obtain rfl := Option.some.inj hd
    have := (h4 t _ ht).val_eq
    rw [this]
    exact .arr (by simp [hlen])
  · exact (h4 x d hd).mono h3.ok tt
/-- a nil slice taken over as a row of its own that holds data -/
theorem dwp_adoptx {c : Code} {F : Fr} {M M' : List Blk} {K : Cont} (t : Nat) (e : TypeId) (sz : Nat) {m : Nat} (ht : lk F t = some (.val (.slice none 0 0))) (hm : M.length = m) (hM : M ++ [.arx e sz 0 []] = M') (h : dwp P s0 n c ((t, .arr m) :: F) M' K) : dwp P s0 n c F M K := by
  subst hm hM
  exact fun a w hi => h a w (inv_adoptx e sz hi ht)
theorem inv_give {F : Fr} {M : List Blk} {a : Act} {w : World} {t i : Nat} {e : TypeId} {sz m : Nat} {l : List D} (h : Inv s0 n F M a w) (ht : lk F t = some (.arr i)) (hM : M[i]? = some (.arx e sz m l)) (hnl : D.nlL l = true) : Inv s0 n ((t, .slm sz m l) :: F) (M.set i .gone) a w := by
  obtain ⟨h0, s, rfl, rfl, h3, h4, h5, h6⟩ := h
  have hr := h4 t _ ht
  generalize hv : slot a t = v at hr
  cases hr with
  | @arr _ ad n' c hβ =>
    obtain ⟨vs, hk, q3, q4⟩ := h3.ok.blk i _ _ hM hβ
    rcases hk.2 with ⟨e1, e2⟩ | ⟨g, cap, cur, e1, e2, e3', e4, e5, e6, e7⟩
    · cases e1; subst e2
      have hl0 : l = [] := List.eq_nil_of_length_eq_zero (by rw [← q3, hk.1, Nat.zero_mul])
      have tt : Tr s ⟨s.β, s.I, s.M.set i .gone, s.w⟩ := by
        have hnd : ∀ (i : Nat) h, s.β[i]? = some h → h ≠ .nilFunc → s.β[i]? = some h := fun _ _ h _ => h
        have old : ∀ (j : Nat) k, (s.M.set i .gone)[j]? = some k → k = .gone ∨ s.M[j]? = some k := fun j k hj => by
          by_cases e : i = j
          · subst e
            rw [List.getElem?_set_self (List.getElem?_eq_some_iff.1 hM).1] at hj
            exact .inl (Option.some.inj hj).symm
          · rw [List.getElem?_set_ne e] at hj; exact .inr hj
        have lv : ∀ b, Live ⟨s.β, s.I, s.M.set i .gone, s.w⟩ b → Live s b := by
          rintro b ⟨j, k, h, h1, h2, h3, h4⟩
          rcases old j k h1 with rfl | h1
          · cases h2
          · exact live_of h1 h2 h3 h4
        refine ⟨⟨by simp [h3.ok.len], fun j k h h1 h2 => ?_, fun b hb => h3.ok.lt b (lv b hb), ?_, h3.ok.il⟩, hkeep_of hnd, fun _ h => h, fun _ h => .inl h, fun _ _ _ => rfl, fun b h => .inr (lv b h), rfl, rfl, rfl, Nat.le_refl _⟩
        · rcases old j k h1 with rfl | h1
          · trivial
          · exact BlkOk.mono (s := s) (s' := ⟨s.β, s.I, s.M.set i .gone, s.w⟩) hnd (fun _ h => h) (fun _ _ => rfl) (h3.ok.blk j k h h1 h2) (fun _ _ _ => rfl)
        · intro j j2 k k2 x x2 b a1 a2 a3 a4 c1 c2 c3 c4
          rcases old j k a1 with rfl | a1
          · cases a2
          · rcases old j2 k2 c1 with rfl | c1
            · cases c2
            · exact h3.ok.inj j j2 k k2 x x2 b a1 a2 a3 a4 c1 c2 c3 c4
      refine ⟨h0, ⟨s.β, s.I, s.M.set i .gone, s.w⟩, rfl, rfl, h3.trans tt, fun x d hd => ?_, h5, h6.mono h3.ok tt⟩
      rw [lk_cons] at hd
      split at hd
      · rename_i e'
        subst e'
        obtain rfl := Option.some.inj hd
        rw [hv]
        subst hl0
        exact .slm (vs := []) rfl (by simp) (Nat.le_refl _) (Nat.zero_le _) (fun _ => rfl) rfl (fun j d v h => by simp at h) (.inl rfl)
      · exact (h4 x d hd).mono h3.ok tt
    · cases e1
      have tt := tr_give h3.ok hM rfl hβ rfl s.w (fun _ _ => rfl) rfl rfl rfl rfl
      refine ⟨h0, ⟨s.β, fun b => s.I b ∨ b = g, s.M.set i .gone, s.w⟩, rfl, rfl, h3.trans tt, fun x d hd => ?_, h5, h6.mono h3.ok tt⟩
      rw [lk_cons] at hd
      split at hd
      · rename_i e'
        subst e'
        obtain rfl := Option.some.inj hd
        rw [hv]
        refine .slm (vs := vs) hnl (by rw [← q3]; exact hk.1) e4 e5 (fun e => by cases e) q3 (fun j d v hj hv => (q4 j d v hj hv).mono h3.ok tt) (.inr ⟨g, 0, rfl, .inr rfl, ?_⟩)
        have hc := cellsAt_sub (cellsAt_block e3' 0) 0 (m * sz)
        show cellsAt s.w g 0 vs
        simpa [e7] using hc
      · exact (h4 x d hd).mono h3.ok tt
/-- a row of one's own that holds data without names is given up: it stays from now on -/
theorem dwp_give {c : Code} {F : Fr} {M M' : List Blk} {K : Cont} (t : Nat) {i : Nat} {e : TypeId} {sz m : Nat} {l : List D} (hnl : D.nlL l = true) (ht : lk F t = some (.arr i)) (hM : M[i]? = some (.arx e sz m l)) (hM' : M.set i .gone = M') (h : dwp P s0 n c ((t, .slm sz m l) :: F) M' K) : dwp P s0 n c F M K := by
  subst hM'
  exact fun a w hi => h a w (inv_give hi ht hM hnl)
theorem nlL_flat1 {α : Type} {f : α → D} (h : ∀ a, (f a).nl = true) : ∀ l : List α, D.nlL (l.flatMap fun a => [f a]) = true
  | [] => rfl
  | a :: l => by
    rw [List.flatMap_cons]
    show ((f a).nl && D.nlL (l.flatMap fun a => [f a])) = true
    rw [h a, nlL_flat1 h l]
    rfl
end
section
variable {P : Program} {pc : Bool} {o : Oper} {F : Fr} {M : List Blk}
theorem slf_one {s : St} {d : D} {v : Value} (h : Rep s d v) (hd : d.isSlf = true) : v.oneCell' = true := by
  cases h <;> first | rfl | cases hd
/-- append onto a row of one's own that holds data -/
theorem op_appx {T e : TypeId} {by' n m i j : Nat} {x y : Operand} {l l2 : List D} {Z : List Value} (ho : o.op = .call { callee := .builtin .append, args := #[x, y], argTypes := #[T, T] }) (hT : slE P T = some (e, 1, by')) (hZ : zrC P e = some Z) (hZl : Z.length = 1)
    (hx : Ev pc F x (.arr i)) (hy : Ev pc F y (.slm 1 m l2)) (hM : M[i]? = some (.arx e 1 n l)) (hj : M[j]? = some .hole) (h1 : l2.all D.isSlf = true) (hbd : pc = true → (n + m) * by' ≤ 140737488355328 ∧ n + m ≤ 140737488355328) :
    DOp P pc o F M [i, j] (.arr j) [(i, .gone), (j, .arx e 1 (n + m) (l ++ l2))] := by
  intro hp a s hok hops hfp
  obtain ⟨e1, ti, e2, e3, e4⟩ := slE_spec hT
  obtain ⟨ti', z, q1, q2, q3⟩ := zrC_spec hZ
  rw [e2] at q1
  obtain rfl := Option.some.inj q1
  obtain ⟨b1, b2⟩ := hbd hp
  have hM' : s.M[i]? = some (.arx e 1 n l) := by rw [hfp i (by simp)]; exact hM
  have hj' : s.M[j]? = some .hole := by rw [hfp j (by simp)]; exact hj
  have hij : i ≠ j := fun h => by subst h; rw [hM'] at hj'; cases hj'
  have hjl : j < s.β.length := by rw [hok.len]; exact (List.getElem?_eq_some_iff.1 hj').1
  have hrx := ev_at hp hx (by simp [ho, Op.operands, Call.operands]) hops
  have hry := ev_at hp hy (by simp [ho, Op.operands, Call.operands]) hops
  generalize hv : a.eval x = vx at hrx
  generalize hvy : a.eval y = vy at hry
  cases hry with
  | @slm _ _ cap2 a2 _ vs2 hnl2 hl2 hn2 hc2 ha2 hvl2 hel2 hm2 =>
  have hso : SrcOk s (.slice a2 m cap2) m vs2 := by
    refine ⟨a2, cap2, rfl, ?_⟩
    cases a2 with
    | none =>
      have := ha2 rfl
      exact .inl ⟨rfl, by omega, this, List.eq_nil_of_length_eq_zero (by rw [hvl2, hl2, show m = 0 by omega])⟩
    | some ad =>
      refine .inr ⟨ad, rfl, fun k u hk => ?_⟩
      rcases hm2 with e | ⟨b, q, e, hI, hcl⟩
      · rw [e] at hvl2
        rw [List.eq_nil_of_length_eq_zero hvl2] at hk
        simp at hk
      · cases e
        rw [Addr.add_mid]
        exact hcl k u hk
  have hone : ∀ u ∈ vs2, u.oneCell' = true := fun u hu => by
    obtain ⟨k, hk, rfl⟩ := List.getElem_of_mem hu
    have hk2 : k < l2.length := by omega
    exact slf_one (hel2 k _ _ (List.getElem?_eq_getElem hk2) (List.getElem?_eq_getElem hk)) (List.all_eq_true.1 h1 _ (List.getElem_mem hk2))
  cases hrx with
  | @arr _ ad n' c hβ =>
    obtain ⟨vs, hk, hvl, hel⟩ := hok.blk i _ _ hM' hβ
    obtain ⟨h', w', r1, r2, r3, r4⟩ := run_append_D (P := P) (ty := o.type) (m := m) e1 e2 e3 e4 q2 (by rw [← hZl, ← q3]; simp) hk (by rw [hvl2]; exact hl2) hso hone (by unfold maxLen; omega) b1
    have hs' : (h' = .slice none 0 0) ∨ ∃ a n c, h' = .slice (some a) n c := by
      rcases r2.2 with ⟨q, _⟩ | ⟨g, cap, cur, q, _⟩
      · exact .inl q
      · exact .inr ⟨_, _, _, q⟩
    have hs0 : (Value.slice ad n' c = .slice none 0 0) ∨ ∃ a n k, Value.slice ad n' c = .slice (some a) n k := by
      rcases hk.2 with ⟨q, _⟩ | ⟨g, cap, cur, q, _⟩
      · exact .inl q
      · exact .inr ⟨_, _, _, q⟩
    have o1 := hb_own hs'
    have o0 := hb_own hs0
    have hblk : s.w.heap.size ≤ w'.heap.size := r3.size
    have hβj : s.β[j]? = some .nilFunc := by
      have q : s.β[j]? = some s.β[j] := List.getElem?_eq_getElem hjl
      have : s.β[j] = .nilFunc := hok.blk j .hole _ hj' q
      rw [q, this]
    have from_ : ∀ b, hb h' = some b → s.w.heap.size ≤ b ∨ (hb (Value.slice ad n' c) = some b) := by
      intro b hbb
      rw [o1] at hbb
      rcases r4 b hbb with h | h
      · exact .inr (by rw [o0]; exact h)
      · exact .inl h
    have hnd' : ∀ (k : Nat) h, s.β[k]? = some h → h ≠ .nilFunc → (s.β.set j h')[k]? = some h := fun k h hk' hne => by
      by_cases e : j = k
      · subst e; rw [hβj] at hk'; exact absurd (Option.some.inj hk').symm hne
      · rw [List.getElem?_set_ne e]; exact hk'
    have imm' : ∀ b, s.I b → w'.heap[b]? = s.w.heap[b]? := fun b hI => r3.block b (hok.il b hI) fun h => by
      rw [← o0] at h
      exact (hok.lt b (live_of hM' rfl hβ h.symm)).2 hI
    have hblkx : BlkOk ⟨s.β.set j h', s.I, (s.M.set i .gone).set j (.arx e 1 (n + m) (l ++ l2)), w'⟩ h' (.arx e 1 (n + m) (l ++ l2)) := by
      refine ⟨vs ++ vs2, r2, by simp [hvl, hvl2], fun k d v hk1 hk2 => ?_⟩
      by_cases hlt : k < l.length
      · rw [List.getElem?_append_left hlt] at hk1
        rw [List.getElem?_append_left (by omega)] at hk2
        exact Rep.mono' (s' := ⟨s.β.set j h', s.I, (s.M.set i .gone).set j (.arx e 1 (n + m) (l ++ l2)), w'⟩) hnd' (fun _ h => h) imm' (hel k d v hk1 hk2)
      · rw [List.getElem?_append_right (by omega)] at hk1 hk2
        rw [hvl] at hk2
        exact Rep.mono' (s' := ⟨s.β.set j h', s.I, (s.M.set i .gone).set j (.arx e 1 (n + m) (l ++ l2)), w'⟩) hnd' (fun _ h => h) imm' (hel2 _ d v hk1 hk2)
    have ht : Tr s ⟨s.β.set j h', s.I, (s.M.set i .gone).set j (.arx e 1 (n + m) (l ++ l2)), w'⟩ := by
      refine step_set hok j (s.M.set i .gone) h' _ w' (by simp) (fun k kb hkb => ?_) (by rw [← hok.len]; exact hjl) (.inl hβj) (by rcases hs' with rfl | ⟨_, _, _, rfl⟩ <;> simp) hblkx (fun b hbb k kb hh hne q1 q2 q3 q4 => ?_) (fun b hbb => (from_ b hbb).imp id fun h => live_of hM' rfl hβ h) (fun b hbb => ?_) (fun b => hb (Value.slice ad n' c) = some b) (fun b hdr => ⟨live_of hM' rfl hβ hdr, fun k kb hh hne q1 q2 q3 q4 => ?_⟩) (fun b hlt hne hnd => ?_) r3.os r3.tape r3.output hblk
      · by_cases hki : i = k
        · subst hki
          have hlt : i < s.M.length := (List.getElem?_eq_some_iff.1 hM').1
          rw [List.getElem?_set_self hlt] at hkb
          exact .inr (Option.some.inj hkb).symm
        · rw [List.getElem?_set_ne hki] at hkb; exact .inl hkb
      · have hki : i ≠ k := fun h => by
          subst h
          have hlt : i < s.M.length := (List.getElem?_eq_some_iff.1 hM').1
          rw [List.getElem?_set_self hlt] at q1
          cases q1; cases q2
        rw [List.getElem?_set_ne hki] at q1
        rcases from_ b hbb with h | h
        · exact absurd (hok.lt b (live_of q1 q2 q3 q4)).1 (Nat.not_lt.2 h)
        · exact hki (hok.inj i k _ kb _ hh b hM' rfl hβ h q1 q2 q3 q4)
      · replace hbb : hb h' = some b := hbb
        rw [o1] at hbb
        exact (r2.lt b hbb).2
      · have hki : i ≠ k := fun h => by
          subst h
          have hlt : i < s.M.length := (List.getElem?_eq_some_iff.1 hM').1
          rw [List.getElem?_set_self hlt] at q1
          cases q1; cases q2
        rw [List.getElem?_set_ne hki] at q1
        exact hki (hok.inj i k _ kb _ hh b hM' rfl hβ hdr q1 q2 q3 q4)
      · exact r3.block b hlt fun h => hnd (by rw [o0]; exact h.symm)
    refine dg_step (s' := ⟨s.β.set j h', s.I, (s.M.set i .gone).set j (.arx e 1 (n + m) (l ++ l2)), w'⟩) (run_builtin ho (fun cs => by rfl) (by simpa [hv, hvy] using r1)) ht rfl ?_
    rcases hs' with rfl | ⟨_, _, _, rfl⟩
    · exact .arr (by simp [hjl])
    · exact .arr (by simp [hjl])
end
section
variable {P : Program} {s0 : St} {n : Cx}
theorem inv_reb {F : Fr} {M : List Blk} {a : Act} {w : World} {i : Nat} {k k' : Blk} (h : Inv s0 n F M a w) (hM : M[i]? = some k) (hl : k.live = k'.live) (hk : ∀ s h, BlkOk s h k → BlkOk s h k') (hf : k.nf = true := by rfl) (hf' : k'.nf = true := by rfl) : Inv s0 n F (M.set i k') a w := by
  obtain ⟨h0, s, rfl, rfl, h3, h4, h5, h6⟩ := h
  have hnd : ∀ (i : Nat) h, s.β[i]? = some h → h ≠ .nilFunc → s.β[i]? = some h := fun _ _ h _ => h
  have hlt := (List.getElem?_eq_some_iff.1 hM).1
  have old : ∀ (j : Nat) kk, (s.M.set i k')[j]? = some kk → (j = i ∧ kk = k') ∨ s.M[j]? = some kk := fun j kk hj => by
    by_cases e : i = j
    · subst e
      rw [List.getElem?_set_self hlt] at hj
      exact .inl ⟨rfl, (Option.some.inj hj).symm⟩
    · rw [List.getElem?_set_ne e] at hj; exact .inr hj
  have back : ∀ (j : Nat) kk, (s.M.set i k')[j]? = some kk → kk.live = true → ∃ k2, s.M[j]? = some k2 ∧ k2.live = true ∧ ∀ x b, owns kk x b → owns k2 x b := fun j kk hj hlv => by
    rcases old j kk hj with ⟨rfl, rfl⟩ | hj
    · exact ⟨k, hM, by rw [hl]; exact hlv, fun x b h => (owns_nf hf).2 ((owns_nf hf').1 h)⟩
    · exact ⟨kk, hj, hlv, fun _ _ h => h⟩
  have lv : ∀ b, Live ⟨s.β, s.I, s.M.set i k', s.w⟩ b → Live s b := by
    rintro b ⟨j, kk, x, h1, h2, h3, h4⟩
    obtain ⟨k2, g1, g2, g3⟩ := back j kk h1 h2
    exact live_of g1 g2 h3 (g3 _ _ h4)
  have mono : ∀ h kk, BlkOk s h kk → BlkOk ⟨s.β, s.I, s.M.set i k', s.w⟩ h kk := fun h kk hb => BlkOk.mono (s := s) (s' := ⟨s.β, s.I, s.M.set i k', s.w⟩) hnd (fun _ h => h) (fun _ _ => rfl) hb (fun _ _ _ => rfl)
  have tt : Tr s ⟨s.β, s.I, s.M.set i k', s.w⟩ := by
    refine ⟨⟨by simp [h3.ok.len], fun j kk h h1 h2 => ?_, fun b hb => h3.ok.lt b (lv b hb), ?_, h3.ok.il⟩, hkeep_of hnd, fun _ h => h, fun _ h => .inl h, fun _ _ _ => rfl, fun b h => .inr (lv b h), rfl, rfl, rfl, Nat.le_refl _⟩
    · rcases old j kk h1 with ⟨rfl, rfl⟩ | h1
      · exact mono _ _ (hk _ _ (h3.ok.blk _ _ h hM h2))
      · exact mono _ _ (h3.ok.blk j kk h h1 h2)
    · intro j j2 k1 k2 x x2 b a1 a2 a3 a4 c1 c2 c3 c4
      obtain ⟨q1, g1, g2, g5⟩ := back j k1 a1 a2
      obtain ⟨q2, g3, g4, g6⟩ := back j2 k2 c1 c2
      exact h3.ok.inj j j2 q1 q2 x x2 b g1 g2 a3 (g5 _ _ a4) g3 g4 c3 (g6 _ _ c4)
  exact ⟨h0, ⟨s.β, s.I, s.M.set i k', s.w⟩, rfl, rfl, h3.trans tt, fun x d hd => (h4 x d hd).mono h3.ok tt, h5, h6.mono h3.ok tt⟩
/-- a block is read anew -/
theorem dwp_reb {c : Code} {F : Fr} {M M' : List Blk} {K : Cont} (i : Nat) {k k' : Blk} (hk : ∀ s h, BlkOk s h k → BlkOk s h k') (hM : M[i]? = some k) (hl : k.live = k'.live) (hM' : M.set i k' = M') (h : dwp P s0 n c F M' K) (hf : k.nf = true := by rfl) (hf' : k'.nf = true := by rfl) : dwp P s0 n c F M K := by
  subst hM'
  exact fun a w hi => h a w (inv_reb hi hM hl hk hf hf')
theorem reb_arx {e : TypeId} {sz : Nat} : ∀ s h, BlkOk s h (.arr e sz 0 []) → BlkOk s h (.arx e sz 0 []) := fun s h hk => ⟨[], hk, rfl, fun j d v h => by simp at h⟩
end
section
variable {P : Program} {pc : Bool} {o : Oper} {F : Fr} {M : List Blk}
end
theorem sbL_flat {α : Type} {τ : List Nat} {f : α → D} (h : ∀ a, sb τ (f a) = some (f a)) : ∀ l : List α, sbL τ (l.flatMap fun a => [f a]) = some (l.flatMap fun a => [f a])
  | [] => rfl
  | a :: l => by
    rw [List.flatMap_cons]
    show sbL τ (f a :: l.flatMap fun a => [f a]) = _
    unfold sbL
    rw [h a, sbL_flat h l]
    rfl
theorem sb_arx {α : Type} {τ : List Nat} {f : α → D} {T : TypeId} {sz n : Nat} {l : List α} (h : ∀ a, sb τ (f a) = some (f a)) : sbB τ (.arx T sz n (l.flatMap fun a => [f a])) = some (.arx T sz n (l.flatMap fun a => [f a])) := by
  show (sbL τ _).map _ = _; rw [sbL_flat h]; rfl
theorem oc2_one {s : St} {d : D} {v : Value} (h : Rep s d v) (hd : d.oc2 = true) : v.oneCell' = true := by
  cases h with
  | val v => exact hd
  | slf => rfl
  | slm => rfl
  | arr => rfl
  | fn => rfl
  | farr => rfl
  | floc => rfl
  | pin => rfl
  | dpf => rfl
  | dpm => rfl
  | _ => cases hd
section
variable {P : Program} {pc : Bool} {o : Oper} {F : Fr} {M : List Blk}
end
section
variable {P : Program} {s0 : St} {n : Cx}
end
mutual
/-- data that names no block is the same everywhere -/
theorem vw_nl (σ : List Nat) (V : Nat → Bool) (M : List Blk) : ∀ d : D, d.nl = true → vw σ V M d = some d
  | .val v, _ => rfl
  | .loc i o, h => by cases h
  | .arr i, h => by cases h
  | .aloc i o, h => by cases h
  | .own i sz o n, h => by cases h
  | .dpf L, _ => rfl
  | .pin b L, _ => rfl
  | .slf sz n L, _ => rfl
  | .slc sz n L, _ => rfl
  | .tup l, h => by rw [vw, vwL_nl σ V M l (by simpa [D.nl] using h)]; rfl
  | .agg l, h => by rw [vw, vwL_nl σ V M l (by simpa [D.nl] using h)]; rfl
  | .dpm l, _ => rfl
  | .slm sz n l, _ => rfl
  | .fn f a b, h => by
    rw [D.nl, Bool.and_eq_true] at h
    rw [vw, vwL_nl σ V M a h.1, vwL_nl σ V M b h.2]
  | .ifc t d, h => by rw [vw, vw_nl σ V M d (by simpa [D.nl] using h)]; rfl
  | .opt b d, h => by rw [vw, vw_nl σ V M d (by simpa [D.nl] using h)]; rfl
  | .hnd i, h => by cases h
  | .yld i, h => by cases h
  | .junk, _ => rfl
theorem vwL_nl (σ : List Nat) (V : Nat → Bool) (M : List Blk) : ∀ l : List D, D.nlL l = true → vwL σ V M l = some l
  | [], _ => rfl
  | d :: l, h => by
    rw [D.nlL, Bool.and_eq_true] at h
    rw [vwL, vw_nl σ V M d h.1, vwL_nl σ V M l h.2]
end
mutual
theorem sb_nl (τ : List Nat) : ∀ d : D, d.nl = true → sb τ d = some d
  | .val v, _ => rfl
  | .loc i o, h => by cases h
  | .arr i, h => by cases h
  | .aloc i o, h => by cases h
  | .own i sz o n, h => by cases h
  | .dpf L, _ => rfl
  | .pin b L, _ => rfl
  | .slf sz n L, _ => rfl
  | .slc sz n L, _ => rfl
  | .tup l, h => by rw [sb, sbL_nl τ l (by simpa [D.nl] using h)]; rfl
  | .agg l, h => by rw [sb, sbL_nl τ l (by simpa [D.nl] using h)]; rfl
  | .dpm l, _ => rfl
  | .slm sz n l, _ => rfl
  | .fn f a b, h => by
    rw [D.nl, Bool.and_eq_true] at h
    rw [sb, sbL_nl τ a h.1, sbL_nl τ b h.2]
  | .ifc t d, h => by rw [sb, sb_nl τ d (by simpa [D.nl] using h)]; rfl
  | .opt b d, h => by rw [sb, sb_nl τ d (by simpa [D.nl] using h)]; rfl
  | .hnd i, h => by cases h
  | .yld i, h => by cases h
  | .junk, _ => rfl
theorem sbL_nl (τ : List Nat) : ∀ l : List D, D.nlL l = true → sbL τ l = some l
  | [], _ => rfl
  | d :: l, h => by
    rw [D.nlL, Bool.and_eq_true] at h
    rw [sbL, sb_nl τ d h.1, sbL_nl τ l h.2]
end
theorem nlL_app' : ∀ {a b : List D}, D.nlL a = true → D.nlL b = true → D.nlL (a ++ b) = true
  | [], _, _, h => h
  | d :: a, b, h, h' => by
    rw [D.nlL, Bool.and_eq_true] at h
    rw [List.cons_append, D.nlL, h.1, nlL_app' h.2 h']
    rfl
theorem nlL_flatR {α : Type} {mk : α → List D} (h : ∀ a, D.nlL (mk a) = true) : ∀ l : List α, D.nlL (l.flatMap mk) = true
  | [] => rfl
  | a :: l => by rw [List.flatMap_cons]; exact nlL_app' (h a) (nlL_flatR h l)
theorem arxr_fits {σ : List Nat} {V : Nat → Bool} {M : List Blk} {T : TypeId} {sz n n' : Nat} {l l' : List D} (hn : n = n') (h : l = l') (hv : D.nlL l' = true) : (vwL σ V M l).map (Blk.arx T sz n) = some (Blk.arx T sz n' l') := by
  subst hn h
  rw [vwL_nl σ V M l hv]
  rfl
theorem sb_arxr {τ : List Nat} {T : TypeId} {sz n : Nat} {l : List D} (h : D.nlL l = true) : sbB τ (.arx T sz n l) = some (.arx T sz n l) := by
  show (sbL τ l).map _ = _
  rw [sbL_nl τ l h]; rfl
section
variable {P : Program} {pc : Bool} {o : Oper} {F : Fr} {M : List Blk} {T : TypeId} {x y : Operand} {n : Nat} {k : IntKind} {z : Int} {j : Nat}
end
theorem fam_mem {s : St} (hok : Ok s) {i k sz n : Nat} {T : TypeId} {Bs : List Mem} {L : List Value} {hs : List Value} {u : Value} (hM : s.M[i]? = some (.fam Bs)) (h : s.β[i]? = some (.tuple hs.toArray)) (hB : Bs[k]? = some (.arr T sz n L)) (hk : hs[k]? = some u) : s.w.ownsRow 0 T sz u n L :=
  (fam_at (k := k) hok hM h).ok k _ _ hB hk
/-- a store into a family's member -/
theorem tr_stf {s : St} (ho : Ok s) {i k : Nat} {Bs : List Mem} {hs : List Value} {B B' : Mem} {u : Value} {b : Nat} (hi : s.M[i]? = some (.fam Bs)) (hβ : s.β[i]? = some (.tuple hs.toArray)) (hB : Bs[k]? = some B) (hl : B.live = true) (hl' : B'.live = true) (hu : hs[k]? = some u) (hub : hb u = some b) (p : Nat) (C : List Value)
    (hm : MemOk (s.w.setCells b p C) u B') : Tr s ⟨s.β.set i (.tuple hs.toArray), s.I, s.M.set i (.fam (Bs.set k B')), s.w.setCells b p C⟩ := by
  have hil := (List.getElem?_eq_some_iff.1 hi).1
  have hf := fam_at (k := k) ho hi hβ
  obtain ⟨r1, r2, r3, r4⟩ := setCells_rest b C p s.w
  have hkl := (List.getElem?_eq_some_iff.1 hB).1
  have old : ∀ (q : Nat) X, (Bs.set k B')[q]? = some X → X.live = true → ∃ Y, Bs[q]? = some Y ∧ Y.live = true := by
    intro q X h1 h2
    by_cases e : k = q
    · subst e; exact ⟨B, hB, hl⟩
    · rw [List.getElem?_set_ne e] at h1; exact ⟨X, h1, h2⟩
  have tw : ∀ b', owns (.fam (Bs.set k B')) (.tuple hs.toArray) b' → owns (.fam Bs) (.tuple hs.toArray) b' := by
    rintro b' ⟨hs', q, X, y, e1, e2, e3, e4, e5⟩
    have e1 : hs = hs' := by simpa using e1
    subst e1
    obtain ⟨Y, f1, f2⟩ := old q X e2 e3
    exact ⟨hs, q, Y, y, rfl, f1, f2, e4, e5⟩
  refine step_set ho i s.M _ _ _ rfl (fun _ _ h => .inl h) hil (.inr (.inl hβ)) (by simp) ⟨hs, rfl, by rw [List.length_set]; exact hf.len, fun q X y h1 h2 => ?_, fun q q' X X' y y' b' h1 l1 h2 h3 g1 m1 g2 g3 => ?_⟩ (fun b' hb' j kj hj hne h1 h2 h3 h4 => ?_) (fun b' hb' => .inr (live_of hi rfl hβ (tw b' hb'))) (fun b' hb' => ?_) (fun _ => False) (fun _ h => h.elim) (fun b' hlt hne _ => ?_) r2 r3 r4 (by rw [r1]; exact Nat.le_refl _)
  · by_cases e : k = q
    · subst e
      rw [List.getElem?_set_self hkl] at h1
      cases h1
      rw [hu] at h2; cases h2
      exact hm
    · rw [List.getElem?_set_ne e] at h1
      refine (hf.ok q X y h1 h2).mono fun b' hlv hbb => setCells_other b C p s.w b' fun e2 => ?_
      subst e2
      exact e (hf.inj k q B X u y b' hB hl hu hub h1 hlv h2 hbb)
  · obtain ⟨Y, f1, f2⟩ := old q X h1 l1
    obtain ⟨Y', f1', f2'⟩ := old q' X' g1 m1
    exact hf.inj q q' Y Y' y y' b' f1 f2 h2 h3 f1' f2' g2 g3
  · exact hne (ho.inj j i kj _ hj _ b' h1 h2 h3 h4 hi rfl hβ (tw b' hb'))
  · rw [r1]; exact (ho.lt b' (live_of hi rfl hβ (tw b' hb'))).1
  · refine setCells_other b C p s.w b' fun e => hne ?_
    rw [e]
    exact ⟨hs, k, B', u, rfl, by rw [List.getElem?_set_self hkl], hl', hu, hub⟩
section
variable {P : Program} {pc : Bool} {o : Oper} {F : Fr} {M : List Blk}
/-- an element's place -/
theorem op_ixf {T T' e : TypeId} {x y : Operand} {i k sz by' n : Nat} {Bs : List Mem} {L : List Value} {kd : IntKind} {z : Int} (j : Nat) (ho : o.op = .indexAddr T x y) (hT : slE P T = some (e, sz, by')) (hx : Ev pc F x (.farr i k)) (hy : Ev pc F y (.val (.int kd z))) (hM : M[i]? = some (.fam Bs)) (hB : Bs[k]? = some (.arr T' sz n L)) (hz : pc = true → z = (j : Int)) (hj : pc = true → j < n) : DOp P pc o F M [i] (.faloc i k (j * sz)) [] := by
  intro hp a s hok hops hfp
  have hr := ev_at hp hx (by simp [ho, Op.operands]) hops
  have h2 := (ev_at hp hy (by simp [ho, Op.operands]) hops).val_eq
  have hz := hz hp
  have hj := hj hp
  subst hz
  generalize hv : a.eval x = vx at hr
  cases hr with
  | @farr _ _ ad n' c hs h hkk =>
    have hM' : s.M[i]? = some (.fam Bs) := by rw [hfp i (by simp)]; exact hM
    have hk := fam_mem hok hM' h hB hkk
    rcases hk.2 with ⟨e1, e2⟩ | ⟨g, cap, cur, e1, e2, e3, e4, e5, e6, e7⟩
    · exfalso; omega
    · cases e1
      refine dg_val hok (run_index_sl ho hT hv h2 (by omega) (by omega)) ?_
      rw [Addr.add_mid, Nat.zero_add, Int.toNat_natCast]
      exact .faloc h hkk
/-- a cell of it -/
theorem op_ldf {T T' : TypeId} {x : Operand} {i k p q sz n : Nat} {Bs : List Mem} {L : List Value} {v : Value} (ho : o.op = .load T x) (hT : tyB P T = some (false, q)) (hx : Ev pc F x (.faloc i k p)) (hM : M[i]? = some (.fam Bs)) (hB : Bs[k]? = some (.arr T' sz n L)) (hR : L[p]? = some v) : DOp P pc o F M [i] (.val v) [] := by
  intro hp a s hok hops hfp
  have hr := ev_at hp hx (by simp [ho, Op.operands]) hops
  generalize hv : a.eval x = vx at hr
  cases hr with
  | @faloc _ _ _ n' c b hs h hkk =>
    have hM' : s.M[i]? = some (.fam Bs) := by rw [hfp i (by simp)]; exact hM
    have hk := fam_mem hok hM' h hB hkk
    rcases hk.2 with ⟨e1, e2⟩ | ⟨g, cap, cur, e1, e2, e3, e4, e5, e6, e7⟩
    · cases e1
    · cases e1
      have hc0 := cellsAt_sub (cellsAt_block e3 0) 0 (n * sz)
      have hc1 : cellsAt s.w b 0 L := by simpa [e7] using hc0
      exact dg_val hok (run_load_one ho hT hv (by simpa using hc1 p v hR)) (.val v)
/-- a store into it -/
theorem op_stf {T T' : TypeId} {x y : Operand} {i m p k sz n : Nat} {rw' : Bool} {v : Value} {Bs : List Mem} {L C L' : List Value} (ho : o.op = .store T x y) (hT : tyB P T = some (rw', k)) (hx : Ev pc F x (.faloc i m p)) (hy : Ev pc F y (.val v)) (hM : M[i]? = some (.fam Bs)) (hB : Bs[m]? = some (.arr T' sz n L)) (hC : v.cells.toList = C) (hk : C.length = k) (h1 : C.all (·.oneCell') = true)
    (hfit : p + C.length ≤ L.length) (hL : setL L p C = L') : DOp P pc o F M [i] .junk [(i, .fam (Bs.set m (.arr T' sz n L')))] := by
  intro hp a s hok hops hfp
  have hr := ev_at hp hx (by simp [ho, Op.operands]) hops
  have h2 := (ev_at hp hy (by simp [ho, Op.operands]) hops).val_eq
  have hM' : s.M[i]? = some (.fam Bs) := by rw [hfp i (by simp)]; exact hM
  subst hL
  generalize hv : a.eval x = vx at hr
  cases hr with
  | @faloc _ _ _ n' c b hs h hkk =>
    have hk' := fam_mem hok hM' h hB hkk
    rcases hk'.2 with ⟨e1, e2⟩ | ⟨g, cap, cur, e1, e2, e3, e4, e5, e6, e7⟩
    · cases e1
    · cases e1
      have hle := Nat.mul_le_mul_right sz e4
      have hlL := hk'.1
      have hcell := cellsAt_block e3 0
      have hrun := run_store (P := P) (w := s.w) ho hT hv h2 hC hk (fun j hj => by
          have := hcell (p + j) _ (by simpa using List.getElem?_eq_getElem (by simp; omega : p + j < cur.toList.length))
          rw [Nat.zero_add] at this
          rw [this]; rfl) (fun j hj => by simp [World.frozen?, e3]) (fun u hu => List.all_eq_true.1 h1 u hu)
      refine dg_skip (s' := ⟨s.β.set i (.tuple hs.toArray), s.I, s.M.set i (.fam (Bs.set m (.arr T' sz n (setL L p C)))), s.w.setCells b p C⟩) hrun (tr_stf hok hM' h hB rfl rfl hkk rfl p C ?_) rfl
      have hsl := setL_len C cur.toList p
      refine ⟨by rw [setL_len]; exact hlL, .inr ⟨b, c, (setL cur.toList p C).toArray, rfl, e2, setCells_block b C p s.w cur.toList T' (by simpa using e3), e4, e5, by simp [hsl]; simpa using e6, ?_⟩⟩
      have hcurlen : cur.toList.length = c * sz := by simpa using e6
      rw [setL_eq C cur.toList p (by omega), setL_eq C L p hfit]
      have hcut : cur.toList = L ++ cur.toList.drop L.length := by
        have := List.take_append_drop (n * sz) cur.toList
        rw [e7, ← hlL] at this
        exact this.symm
      generalize cur.toList.drop L.length = R at hcut
      rw [hcut]
      have t1 : (L ++ R).take p = L.take p := List.take_append_of_le_length (by omega)
      have t2 : (L ++ R).drop (p + C.length) = L.drop (p + C.length) ++ R := List.drop_append_of_le_length (by omega)
      rw [t1, t2, ← hlL, ← List.append_assoc]
      refine List.take_left' ?_
      simp; omega
/-- .. an element of one cell, in a list -/
theorem op_ldfe {T T' : TypeId} {x : Operand} {i k j q n : Nat} {Bs : List Mem} {α : Type} {en : α → List Value} {l : List α} {v : Value} (ho : o.op = .load T x) (hT : tyB P T = some (false, q)) (hx : Ev pc F x (.faloc i k (j * 1))) (hM : M[i]? = some (.fam Bs)) (hB : Bs[k]? = some (.arr T' 1 n (l.flatMap en))) (hen : ∀ a, (en a).length = 1) (hj : j < l.length) (hv : (en l[j])[0]? = some v) : DOp P pc o F M [i] (.val v) [] :=
  op_ldf ho hT hx hM hB (by have := flat_cell (c := 0) hen hj (by omega); rw [Nat.add_zero] at this; rw [this, hv])
theorem op_stfe {T T' : TypeId} {x y : Operand} {i m j n : Nat} {rw' : Bool} {v : Value} {Bs : List Mem} {α : Type} {en : α → List Value} {l : List α} (q : α) (ho : o.op = .store T x y) (hT : tyB P T = some (rw', 1)) (hx : Ev pc F x (.faloc i m (j * 1))) (hy : Ev pc F y (.val v)) (hM : M[i]? = some (.fam Bs)) (hB : Bs[m]? = some (.arr T' 1 n (l.flatMap en))) (hC : v.cells.toList = en q) (hen : ∀ a, (en a).length = 1) (hj : j < l.length) (h1 : (en q).all (·.oneCell') = true) : DOp P pc o F M [i] .junk [(i, .fam (Bs.set m (.arr T' 1 n ((l.set j q).flatMap en))))] :=
  op_stf ho hT hx hy hM hB hC (hen _) h1 (by
    have h2 : (j + 1) * 1 ≤ l.length * 1 := Nat.mul_le_mul_right _ hj
    rw [hen, flat_len hen]; omega) (flat_set hen hj q)
theorem op_appxx {T e T2 : TypeId} {by' n m i j q : Nat} {x y : Operand} {l l2 : List D} {Z : List Value} (ho : o.op = .call { callee := .builtin .append, args := #[x, y], argTypes := #[T, T] }) (hT : slE P T = some (e, 1, by')) (hZ : zrC P e = some Z) (hZl : Z.length = 1)
    (hx : Ev pc F x (.arr i)) (hy : Ev pc F y (.arr q)) (hMq : M[q]? = some (.arx T2 1 m l2)) (hM : M[i]? = some (.arx e 1 n l)) (hj : M[j]? = some .hole) (h1 : l2.all D.oc2 = true) (hbd : pc = true → (n + m) * by' ≤ 140737488355328 ∧ n + m ≤ 140737488355328) :
    DOp P pc o F M [i, j, q] (.arr j) [(i, .gone), (j, .arx e 1 (n + m) (l ++ l2))] := by
  intro hp a s hok hops hfp
  obtain ⟨e1, ti, e2, e3, e4⟩ := slE_spec hT
  obtain ⟨ti', z, q1, q2, q3⟩ := zrC_spec hZ
  rw [e2] at q1
  obtain rfl := Option.some.inj q1
  obtain ⟨b1, b2⟩ := hbd hp
  have hM' : s.M[i]? = some (.arx e 1 n l) := by rw [hfp i (by simp)]; exact hM
  have hj' : s.M[j]? = some .hole := by rw [hfp j (by simp)]; exact hj
  have hij : i ≠ j := fun h => by subst h; rw [hM'] at hj'; cases hj'
  have hjl : j < s.β.length := by rw [hok.len]; exact (List.getElem?_eq_some_iff.1 hj').1
  have hrx := ev_at hp hx (by simp [ho, Op.operands, Call.operands]) hops
  have hry := ev_at hp hy (by simp [ho, Op.operands, Call.operands]) hops
  generalize hv : a.eval x = vx at hrx
  generalize hvy : a.eval y = vy at hry
  cases hry with
  | @arr _ a2 m2 cap2 hβq =>
  have hMq' : s.M[q]? = some (.arx T2 1 m l2) := by rw [hfp q (by simp)]; exact hMq
  obtain ⟨vs2, hk2, hvl2, hel2⟩ := hok.blk q _ _ hMq' hβq
  have hl2 : l2.length = m * 1 := by rw [← hvl2]; exact hk2.1
  have hso : SrcOk s (.slice a2 m2 cap2) m vs2 := by
    rcases hk2.2 with ⟨e1, e2⟩ | ⟨g, cap, cur, e1, e2, e3, e4, e5, e6, e7⟩
    · cases e1
      exact ⟨none, 0, by rw [e2], .inl ⟨rfl, e2, rfl, List.eq_nil_of_length_eq_zero (by rw [hvl2, hl2, e2])⟩⟩
    · cases e1
      refine ⟨_, _, rfl, .inr ⟨_, rfl, fun k u hk => ?_⟩⟩
      rw [Addr.add_mid]
      have hc0 := cellsAt_sub (cellsAt_block e3 0) 0 (m * 1)
      rw [Nat.mul_one] at e7
      have hc1 : cellsAt s.w g 0 vs2 := by simpa [e7] using hc0
      exact hc1 k u hk
  have hone : ∀ u ∈ vs2, u.oneCell' = true := fun u hu => by
    obtain ⟨k, hk, rfl⟩ := List.getElem_of_mem hu
    have hk2 : k < l2.length := by omega
    exact oc2_one (hel2 k _ _ (List.getElem?_eq_getElem hk2) (List.getElem?_eq_getElem hk)) (List.all_eq_true.1 h1 _ (List.getElem_mem hk2))
  cases hrx with
  | @arr _ ad n' c hβ =>
    obtain ⟨vs, hk, hvl, hel⟩ := hok.blk i _ _ hM' hβ
    obtain ⟨h', w', r1, r2, r3, r4⟩ := run_append_D (P := P) (ty := o.type) (m := m) e1 e2 e3 e4 q2 (by rw [← hZl, ← q3]; simp) hk (by rw [hvl2]; exact hl2) hso hone (by unfold maxLen; omega) b1
    have hs' : (h' = .slice none 0 0) ∨ ∃ a n c, h' = .slice (some a) n c := by
      rcases r2.2 with ⟨q, _⟩ | ⟨g, cap, cur, q, _⟩
      · exact .inl q
      · exact .inr ⟨_, _, _, q⟩
    have hs0 : (Value.slice ad n' c = .slice none 0 0) ∨ ∃ a n k, Value.slice ad n' c = .slice (some a) n k := by
      rcases hk.2 with ⟨q, _⟩ | ⟨g, cap, cur, q, _⟩
      · exact .inl q
      · exact .inr ⟨_, _, _, q⟩
    have o1 := hb_own hs'
    have o0 := hb_own hs0
    have hblk : s.w.heap.size ≤ w'.heap.size := r3.size
    have hβj : s.β[j]? = some .nilFunc := by
      have q : s.β[j]? = some s.β[j] := List.getElem?_eq_getElem hjl
      have : s.β[j] = .nilFunc := hok.blk j .hole _ hj' q
      rw [q, this]
    have from_ : ∀ b, hb h' = some b → s.w.heap.size ≤ b ∨ (hb (Value.slice ad n' c) = some b) := by
      intro b hbb
      rw [o1] at hbb
      rcases r4 b hbb with h | h
      · exact .inr (by rw [o0]; exact h)
      · exact .inl h
    have hnd' : ∀ (k : Nat) h, s.β[k]? = some h → h ≠ .nilFunc → (s.β.set j h')[k]? = some h := fun k h hk' hne => by
      by_cases e : j = k
      · subst e; rw [hβj] at hk'; exact absurd (Option.some.inj hk').symm hne
      · rw [List.getElem?_set_ne e]; exact hk'
    have imm' : ∀ b, s.I b → w'.heap[b]? = s.w.heap[b]? := fun b hI => r3.block b (hok.il b hI) fun h => by
      rw [← o0] at h
      exact (hok.lt b (live_of hM' rfl hβ h.symm)).2 hI
    have hblkx : BlkOk ⟨s.β.set j h', s.I, (s.M.set i .gone).set j (.arx e 1 (n + m) (l ++ l2)), w'⟩ h' (.arx e 1 (n + m) (l ++ l2)) := by
      refine ⟨vs ++ vs2, r2, by simp [hvl, hvl2], fun k d v hk1 hk2 => ?_⟩
      by_cases hlt : k < l.length
      · rw [List.getElem?_append_left hlt] at hk1
        rw [List.getElem?_append_left (by omega)] at hk2
        exact Rep.mono' (s' := ⟨s.β.set j h', s.I, (s.M.set i .gone).set j (.arx e 1 (n + m) (l ++ l2)), w'⟩) hnd' (fun _ h => h) imm' (hel k d v hk1 hk2)
      · rw [List.getElem?_append_right (by omega)] at hk1 hk2
        rw [hvl] at hk2
        exact Rep.mono' (s' := ⟨s.β.set j h', s.I, (s.M.set i .gone).set j (.arx e 1 (n + m) (l ++ l2)), w'⟩) hnd' (fun _ h => h) imm' (hel2 _ d v hk1 hk2)
    have ht : Tr s ⟨s.β.set j h', s.I, (s.M.set i .gone).set j (.arx e 1 (n + m) (l ++ l2)), w'⟩ := by
      refine step_set hok j (s.M.set i .gone) h' _ w' (by simp) (fun k kb hkb => ?_) (by rw [← hok.len]; exact hjl) (.inl hβj) (by rcases hs' with rfl | ⟨_, _, _, rfl⟩ <;> simp) hblkx (fun b hbb k kb hh hne q1 q2 q3 q4 => ?_) (fun b hbb => (from_ b hbb).imp id fun h => live_of hM' rfl hβ h) (fun b hbb => ?_) (fun b => hb (Value.slice ad n' c) = some b) (fun b hdr => ⟨live_of hM' rfl hβ hdr, fun k kb hh hne q1 q2 q3 q4 => ?_⟩) (fun b hlt hne hnd => ?_) r3.os r3.tape r3.output hblk
      · by_cases hki : i = k
        · subst hki
          have hlt : i < s.M.length := (List.getElem?_eq_some_iff.1 hM').1
          rw [List.getElem?_set_self hlt] at hkb
          exact .inr (Option.some.inj hkb).symm
        · rw [List.getElem?_set_ne hki] at hkb; exact .inl hkb
      · have hki : i ≠ k := fun h => by
          subst h
          have hlt : i < s.M.length := (List.getElem?_eq_some_iff.1 hM').1
          rw [List.getElem?_set_self hlt] at q1
          cases q1; cases q2
        rw [List.getElem?_set_ne hki] at q1
        rcases from_ b hbb with h | h
        · exact absurd (hok.lt b (live_of q1 q2 q3 q4)).1 (Nat.not_lt.2 h)
        · exact hki (hok.inj i k _ kb _ hh b hM' rfl hβ h q1 q2 q3 q4)
      · replace hbb : hb h' = some b := hbb
        rw [o1] at hbb
        exact (r2.lt b hbb).2
      · have hki : i ≠ k := fun h => by
          subst h
          have hlt : i < s.M.length := (List.getElem?_eq_some_iff.1 hM').1
          rw [List.getElem?_set_self hlt] at q1
          cases q1; cases q2
        rw [List.getElem?_set_ne hki] at q1
        exact hki (hok.inj i k _ kb _ hh b hM' rfl hβ hdr q1 q2 q3 q4)
      · exact r3.block b hlt fun h => hnd (by rw [o0]; exact h.symm)
    refine dg_step (s' := ⟨s.β.set j h', s.I, (s.M.set i .gone).set j (.arx e 1 (n + m) (l ++ l2)), w'⟩) (run_builtin ho (fun cs => by rfl) (by simpa [hv, hvy] using r1)) ht rfl ?_
    rcases hs' with rfl | ⟨_, _, _, rfl⟩
    · exact .arr (by simp [hjl])
    · exact .arr (by simp [hjl])
end
theorem arxg_fits {α : Type} {σ : List Nat} {V : Nat → Bool} {M : List Blk} {T : TypeId} {n n' : Nat} {f g : α → D} {l l' : List α} (hn : n = n') (hl : l = l') (h : ∀ a, vw σ V M (f a) = some (g a)) : (vwL σ V M (l.flatMap fun a => [f a])).map (Blk.arx T 1 n) = some (Blk.arx T 1 n' (l'.flatMap fun a => [g a])) := by
  subst hn hl
  rw [vwL_flatG h]
  rfl
theorem sb_arxg {α : Type} {τ : List Nat} {T : TypeId} {n : Nat} {f g : α → D} {l : List α} (h : ∀ a, sb τ (f a) = some (g a)) : sbB τ (.arx T 1 n (l.flatMap fun a => [f a])) = some (.arx T 1 n (l.flatMap fun a => [g a])) := by
  show (sbL τ _).map _ = _
  rw [sbL_flatG h]; rfl
theorem vwL_flatMk {α : Type} {σ : List Nat} {V : Nat → Bool} {M : List Blk} {f g : α → List D} (h : ∀ a, vwL σ V M (f a) = some (g a)) : ∀ l : List α, vwL σ V M (l.flatMap f) = some (l.flatMap g)
  | [] => rfl
  | a :: l => by
    have app : ∀ (a b a' b' : List D), vwL σ V M a = some a' → vwL σ V M b = some b' → vwL σ V M (a ++ b) = some (a' ++ b') := by
      intro a
      induction a with
      | nil => intro b a' b' h1 h2; rw [vwL] at h1; cases h1; exact h2
      | cons d a ih =>
        intro b a' b' h1 h2
        rw [vwL] at h1
        cases e1 : vw σ V M d with
        | none => rw [e1] at h1; simp at h1
        | some d1 =>
          cases e2 : vwL σ V M a with
          | none => rw [e1, e2] at h1; simp at h1
          | some a1 =>
            rw [e1, e2] at h1
            obtain rfl := Option.some.inj h1
            rw [List.cons_append, vwL, e1, ih b a1 b' e2 h2]
            rfl
    rw [List.flatMap_cons, List.flatMap_cons]
    exact app _ _ _ _ (h a) (vwL_flatMk h l)
theorem sbL_flatMk {α : Type} {τ : List Nat} {f g : α → List D} (h : ∀ a, sbL τ (f a) = some (g a)) : ∀ l : List α, sbL τ (l.flatMap f) = some (l.flatMap g)
  | [] => rfl
  | a :: l => by
    have app : ∀ (a b a' b' : List D), sbL τ a = some a' → sbL τ b = some b' → sbL τ (a ++ b) = some (a' ++ b') := by
      intro a
      induction a with
      | nil => intro b a' b' h1 h2; rw [sbL] at h1; cases h1; exact h2
      | cons d a ih =>
        intro b a' b' h1 h2
        rw [sbL] at h1
        cases e1 : sb τ d with
        | none => rw [e1] at h1; simp at h1
        | some d1 =>
          cases e2 : sbL τ a with
          | none => rw [e1, e2] at h1; simp at h1
          | some a1 =>
            rw [e1, e2] at h1
            obtain rfl := Option.some.inj h1
            rw [List.cons_append, sbL, e1, ih b a1 b' e2 h2]
            rfl
    rw [List.flatMap_cons, List.flatMap_cons]
    exact app _ _ _ _ (h a) (sbL_flatMk h l)
theorem arxs_fits {α : Type} {σ : List Nat} {V : Nat → Bool} {M : List Blk} {T : TypeId} {sz n n' : Nat} {f g : α → List D} {l l' : List α} (hn : n = n') (hl : l = l') (h : ∀ a, vwL σ V M (f a) = some (g a)) : (vwL σ V M (l.flatMap f)).map (Blk.arx T sz n) = some (Blk.arx T sz n' (l'.flatMap g)) := by
  subst hn hl
  rw [vwL_flatMk h]; rfl
theorem sb_arxs {α : Type} {τ : List Nat} {T : TypeId} {sz n : Nat} {f g : α → List D} {l : List α} (h : ∀ a, sbL τ (f a) = some (g a)) : sbB τ (.arx T sz n (l.flatMap f)) = some (.arx T sz n (l.flatMap g)) := by
  show (sbL τ _).map _ = _
  rw [sbL_flatMk h]; rfl
section
variable {P : Program} {pc : Bool} {o : Oper} {F : Fr} {M : List Blk}
end
section
variable {P : Program} {pc : Bool} {o : Oper} {F : Fr} {M : List Blk}
end
section
variable {P : Program} {s0 : St} {n : Cx}
/-- a row of one's own joins a family: the slot that held it names it there -/
theorem inv_abs {F : Fr} {M : List Blk} {a : Act} {w : World} {t j f : Nat} {e : TypeId} {sz m : Nat} {L : List Value} {Bs : List Mem} (h : Inv s0 n F M a w) (ht : lk F t = some (.arr j)) (hj : M[j]? = some (.arr e sz m L)) (hf : M[f]? = some (.fam Bs)) : Inv s0 n ((t, .farr f Bs.length) :: F) ((M.set j .gone).set f (.fam (Bs ++ [.arr e sz m L]))) a w := by
  obtain ⟨h0, s, rfl, rfl, h3, h4, h5, h6⟩ := h
  have hlen := h3.ok.len
  have hfl := (List.getElem?_eq_some_iff.1 hf).1
  have hjl := (List.getElem?_eq_some_iff.1 hj).1
  obtain ⟨x, hx⟩ : ∃ x, s.β[f]? = some x := ⟨_, List.getElem?_eq_getElem (by omega)⟩
  obtain ⟨y, hy⟩ : ∃ y, s.β[j]? = some y := ⟨_, List.getElem?_eq_getElem (by omega)⟩
  obtain ⟨hs, rfl, hfo⟩ := h3.ok.blk f _ x hf hx
  have tt := tr_abs (B := .arr e sz m L) h3.ok hf hj rfl hx hy
  refine ⟨h0, ⟨s.β.set f (.tuple (hs ++ [y]).toArray), s.I, (s.M.set j .gone).set f (.fam (Bs ++ [.arr e sz m L])), s.w⟩, rfl, rfl, h3.trans tt, fun z d hd => ?_, h5, h6.mono h3.ok tt⟩
  rw [lk_cons] at hd
  split at hd
  · rename_i e'
    subst e'
    obtain rfl := Option.some.inj hd
    have hr := h4 t _ ht
    generalize hv : slot a t = v at hr
    cases hr with
    | @arr _ ad n' c hβ =>
      rw [hy] at hβ
      obtain rfl := Option.some.inj hβ
      refine .farr (hs := hs ++ [.slice ad n' c]) (by show (s.β.set f _)[f]? = _; rw [List.getElem?_set_self (by rw [hlen]; exact hfl)]) ?_
      rw [List.getElem?_append_right (by rw [hfo.len]; exact Nat.le_refl _), hfo.len, Nat.sub_self]
      rfl
  · exact (h4 z d hd).mono h3.ok tt
end
section
variable {P : Program} {s0 : St} {n : Cx}
end
section
variable {P : Program} {pc : Bool} {o : Oper} {F : Fr} {M : List Blk} {T : TypeId} {x y : Operand} {k : IntKind} {z : Int} {n : Nat}
end
/-- behind a guard that does not hold nothing is done -/
theorem dop_never {P : Program} {o : Oper} {F : Fr} {M : List Blk} {d : D} : DOp P false o F M [] d [] := fun h => by cases h
theorem toList_made_all {Z : Array Value} {z0 : Value} (hZ : ∀ v ∈ Z, v = z0) (h0 : 0 < Z.size) (n : Nat) : (madeCells Z n).toList = List.replicate n z0 := by
  rw [List.eq_replicate_iff]
  refine ⟨by rw [Array.length_toList, size_madeCells], fun b hb => ?_⟩
  unfold madeCells at hb
  rw [Array.toList_map, List.mem_map] at hb
  obtain ⟨i, _, rfl⟩ := hb
  have hi : i % Z.size < Z.size := Nat.mod_lt _ h0
  rw [getElem!_pos Z (i % Z.size) hi]
  exact hZ _ (Array.getElem_mem hi)
theorem op_mkg {P : Program} {pc : Bool} {o : Oper} {F : Fr} {M : List Blk} {T e : TypeId} {x y : Operand} {by' sz : Nat} (j n : Nat) {k k' : IntKind} {z z' : Int} (z0 : Value) {Z : List Value} (ho : o.op = .makeSlice T x y) (hT : slE P T = some (e, sz, by')) (hZ : zrC P e = some Z) (hz0 : Z = List.replicate sz z0) (hsz : 0 < sz) (hx : Ev pc F x (.val (.int k z))) (hy : Ev pc F y (.val (.int k' z'))) (hz : pc = true → z = (n : Int)) (hz' : pc = true → z' = (n : Int)) (hj : M[j]? = some .hole) (hb : pc = true → by' * n ≤ 281474976710656 ∧ n ≤ 9223372036854775807) :
    DOp P pc o F M [j] (.arr j) [(j, .arr e sz n (List.replicate (n * sz) z0))] := by
  intro hp a s hok hops hfp
  obtain ⟨e1, ti, e2, e3, e4⟩ := slE_spec hT
  obtain ⟨ti', zv, q1, q2, q3⟩ := zrC_spec hZ
  rw [e2] at q1
  obtain rfl := Option.some.inj q1
  have h1 := (ev_at hp hx (by simp [ho, Op.operands]) hops).val_eq
  have h2 := (ev_at hp hy (by simp [ho, Op.operands]) hops).val_eq
  rw [hz hp] at h1
  rw [hz' hp] at h2
  obtain ⟨b1, b2⟩ := hb hp
  have hj' : s.M[j]? = some .hole := by rw [hfp j (by simp)]; exact hj
  have hjl : j < s.β.length := by rw [hok.len]; exact (List.getElem?_eq_some_iff.1 hj').1
  have hb3 : (ti.bytes : Int) * (n : Int) ≤ 281474976710656 := by
    have h : ((ti.bytes * n : Nat) : Int) ≤ 281474976710656 := by rw [e4]; omega
    rwa [Int.natCast_mul] at h
  have hrun := run_make (P := P) s.w T e ti zv e1 e2 q2 k k' n n (by omega) (Int.le_refl _) hb3 (by omega)
  simp only [Int.toNat_natCast] at hrun
  have hc : ∀ v ∈ zv.cells, v = z0 := fun v hv => by
    have h : v ∈ Z := by rw [← q3]; exact Array.mem_toList_iff.2 hv
    rw [hz0] at h
    exact List.eq_of_mem_replicate h
  have hs0 : 0 < zv.cells.size := by
    have := congrArg List.length q3
    rw [Array.length_toList, hz0, List.length_replicate] at this
    omega
  have hrow := World.ownsRow_lit (base := 0) (e := e) (size := ti.size) s.w (madeCells zv.cells (n * ti.size)) n (Nat.zero_le _) (by unfold maxLen; omega) (size_madeCells _ _)
  rw [toList_made_all hc hs0, e3] at hrow
  rw [e3] at hrun
  refine dg_step (s' := ⟨s.β.set j (.slice (some ⟨s.w.heap.size, 0, none⟩) n n), s.I, s.M.set j (.arr e sz n (List.replicate (n * sz) z0)), _⟩) (v := .slice (some ⟨s.w.heap.size, 0, none⟩) n n) ?_ (tr_new hok hj' _ _ _ (by simp) (fun b hb => by cases hb; rfl) (fun b h => Below.heap_alloc _ _ _ h) (fun b hb => by cases hb; simp) (by simp) rfl rfl rfl hrow) rfl (.arr (by simp [hjl]))
  unfold execOp
  simp only [ho, h1, h2]
  exact run_v hrun
theorem WkL.app {a b c d : List D} (h : WkL a b) (k : WkL c d) : WkL (a ++ c) (b ++ d) := by
  refine ⟨by rw [List.length_append, List.length_append, h.1, k.1], fun j x y h1 h2 => ?_⟩
  by_cases hj : j < a.length
  · rw [List.getElem?_append_left hj] at h1
    rw [List.getElem?_append_left (by rw [← h.1]; exact hj)] at h2
    exact h.2 j x y h1 h2
  · rw [List.getElem?_append_right (by omega)] at h1
    rw [List.getElem?_append_right (by rw [← h.1]; omega), ← h.1] at h2
    exact k.2 _ x y h1 h2
section
variable {P : Program} {s0 : St} {n : Cx}
end
section
variable {P : Program} {K E T : TypeId} {pc : Bool} {o : Oper} {F : Fr} {M : List Blk} {x y z : Operand}
/-- the row that an operation just made joins a family -/
theorem walk_abs {s0 : St} {n : Cx} {ops : Array Oper} {l : List Oper} {F : Fr} {M M' : List Blk} {K : Cont} (t f : Nat) {j : Nat} {e : TypeId} {sz m : Nat} {L : List Value} {Bs : List Mem} (ht : lk F t = some (.arr j)) (hj : M[j]? = some (.arr e sz m L)) (hf : M[f]? = some (.fam Bs)) (hM' : (M.set j .gone).set f (.fam (Bs ++ [.arr e sz m L])) = M') (h : Walk P s0 n ops l ((t, .farr f Bs.length) :: F) M' K) : Walk P s0 n ops l F M K := by
  subst hM'
  exact fun a w hi => h a w (inv_abs hi ht hj hf)
end
section
variable {P : Program} {s0 : St} {n : Cx}
end
set_option maxRecDepth 4000
def Sp.pts (s : Sp) : List P2 := (List.range s.wd).map fun i : Nat => ⟨s.f + (i : Int), s.y⟩
def ptsS (l : List Sp) : List P2 := l.flatMap Sp.pts
theorem pts_mem {s : Sp} {p : P2} : p ∈ s.pts ↔ s.has p.x p.y := by
  unfold Sp.pts Sp.has Sp.wd
  rw [List.mem_map]
  constructor
  · rintro ⟨i, hi, rfl⟩
    rw [List.mem_range] at hi
    exact ⟨rfl, by show s.f ≤ s.f + (i : Int); omega, by show s.f + (i : Int) ≤ s.t; omega⟩
  · rintro ⟨h1, h2, h3⟩
    refine ⟨(p.x - s.f).toNat, List.mem_range.2 (by omega), ?_⟩
    cases p
    simp only at *
    congr 1
    omega
theorem ptsS_mem {l : List Sp} {p : P2} : p ∈ ptsS l ↔ hasS l p.x p.y := by
  unfold ptsS hasS
  rw [List.mem_flatMap]
  exact ⟨fun ⟨s, h, g⟩ => ⟨s, h, pts_mem.1 g⟩, fun ⟨s, h, g⟩ => ⟨s, h, pts_mem.2 g⟩⟩
theorem ptsS_len (l : List Sp) : (ptsS l).length = cntS l := by
  unfold ptsS cntS
  rw [List.length_flatMap]
  congr 1
  exact List.map_congr_left fun s _ => by simp [Sp.pts]
set_option maxRecDepth 4000
theorem run_ok {l : List P2} (h : l.Pairwise beh) : okS (runS l) ∧ ∀ x y, hasS (runS l) x y ↔ (⟨x, y⟩ : P2) ∈ l := by
  rw [run_norm h]
  have := norm_ok (pts_valid l)
  exact ⟨this.1, fun x y => (this.2 x y).trans hasS_pts⟩
theorem runS_add (l : List P2) (p : P2) : runS (l ++ [p]) = mergeS (runS l) (pt1 p) := by
  unfold runS
  rw [List.map_append, List.foldl_append]
  rfl
def opnS (out : List Sp) (p : P2) : Bool := match out.getLast? with
  | none => false
  | some a => decide (a.y = p.y ∧ a.t + 1 = p.x)
theorem opnS_app (l : List Sp) (a : Sp) (p : P2) : opnS (l ++ [a]) p = decide (a.y = p.y ∧ a.t + 1 = p.x) := by unfold opnS; rw [List.getLast?_concat]
def endS (out : List Sp) (p : P2) : Prop := ∀ a ∈ out, a.y < p.y ∨ a.y = p.y ∧ a.t < p.x
theorem endS_run {l : List P2} {p : P2} (h : l.Pairwise beh) (hp : ∀ q ∈ l, beh q p) : endS (runS l) p := fun a ha => by
  have h1 := (run_ok h).1.1 a ha
  have := (run_ok h).2 a.t a.y |>.1 ⟨a, ha, rfl, h1, Int.le_refl _⟩
  have := hp _ this
  unfold beh at this
  exact this
theorem merge_open {l : List Sp} {a : Sp} {p : P2} (h : a.y = p.y ∧ a.t + 1 = p.x) : mergeS (l ++ [a]) (pt1 p) = l ++ [⟨a.y, a.f, p.x⟩] := by
  rw [mergeS_app, if_neg (by unfold apS pt1; simp only; omega)]
  congr 3
  show max a.t p.x = p.x
  omega
theorem merge_shut {out : List Sp} {p : P2} (he : endS out p) (h : opnS out p = false) : mergeS out (pt1 p) = out ++ [pt1 p] := by
  rcases list_last out with rfl | ⟨l, a, rfl⟩
  · rfl
  · rw [opnS_app] at h
    have h := of_decide_eq_false h
    have := he a (by simp)
    rw [mergeS_app, if_pos (by unfold apS pt1; simp only; omega)]
theorem opn_last {out : List Sp} {p : P2} (h : opnS out p = true) : ∃ l a, out = l ++ [a] ∧ a.y = p.y ∧ a.t + 1 = p.x := by
  rcases list_last out with rfl | ⟨l, a, rfl⟩
  · cases h
  · rw [opnS_app] at h
    exact ⟨l, a, rfl, of_decide_eq_true h⟩
theorem field_before {w n : Nat} (hw : 0 < w) {X Y : Int} : ∀ q ∈ fieldN w n X Y, beh q ⟨X + ((n % w : Nat) : Int), Y + ((n / w : Nat) : Int)⟩ := fun q hq => by
  have h := field_beh hw (n + 1) X Y
  rw [field_succ] at h
  exact (List.pairwise_append.1 h).2.2 q hq _ (by simp)
set_option maxRecDepth 4000
def bx4 (c : Bx) : List Value := [.int .i64 c.x, .int .i64 c.y, .int .i64 c.x2, .int .i64 c.y2]
set_option maxRecDepth 4000
theorem zr4 : zrC Try.prog 4 = some [.bool false] := by kernel_rfl
noncomputable def hsrA : Code := rfA (pth [1, 0, 1, 1, 0, 1, 0] (bodyOf Try.f33))
noncomputable def hsrB : Code := rfB (pth [1, 0, 1, 1, 0, 1, 0] (bodyOf Try.f33))
def hitB (s : Sp) (p : P2) : Bool := decide (s.y = p.y) && (decide (s.f ≤ p.x) && decide (p.x ≤ s.t))
theorem hitB_iff {s : Sp} {p : P2} : hitB s p = true ↔ s.has p.x p.y := by
  unfold hitB Sp.has
  simp only [Bool.and_eq_true, decide_eq_true_eq]
def goB (s : Sp) (p : P2) : Bool := !decide (p.y < s.y) && !hitB s p
def hasB (l : List Sp) (p : P2) : Bool := decide (hasS l p.x p.y)
theorem hasB_stop {l : List Sp} (hc : chkS l) {p : P2} {i : Nat} (hi : i < l.length) (ha : (l.take i).all (fun s => goB s p) = true) (hg : goB l[i] p = false) : hasB l p = hitB l[i] p := by
  unfold hasB
  rw [Bool.eq_iff_iff, decide_eq_true_eq, hitB_iff]
  constructor
  · rintro ⟨s, hs, h⟩
    obtain ⟨j, hj, rfl⟩ := List.getElem_of_mem hs
    rcases Nat.lt_trichotomy j i with e | e | e
    · have := List.all_eq_true.1 ha l[j] (List.mem_take_iff_getElem.2 ⟨j, by omega, rfl⟩)
      unfold goB at this
      rw [hitB_iff.2 h] at this
      simp at this
    · subst e; exact h
    · unfold goB at hg
      cases hh : hitB l[i] p with
      | true => exact hitB_iff.1 hh
      | false =>
        rw [hh] at hg
        have h1 : p.y < l[i].y := by simpa using hg
        have h2 := List.pairwise_iff_getElem.1 hc.2 i j hi hj e
        have h3 := h.1
        unfold apS at h2
        omega
  · exact fun h => ⟨_, List.getElem_mem hi, h⟩
theorem hasB_end {l : List Sp} {p : P2} (ha : l.all (fun s => goB s p) = true) : hasB l p = false := by
  unfold hasB
  rw [decide_eq_false_iff_not]
  rintro ⟨s, hs, h⟩
  have := List.all_eq_true.1 ha s hs
  unfold goB at this
  rw [hitB_iff.2 h] at this
  simp at this
theorem all_add {α : Type} {q : α → Bool} {l : List α} {i : Nat} (hi : i < l.length) (h : (l.take i).all q = true) (hq : q l[i] = true) : (l.take (i + 1)).all q = true := by
  rw [List.take_succ_eq_append_getElem hi, List.all_append, h]
  simp [hq]
theorem all_no {α : Type} {q : α → Bool} {l : List α} {i : Nat} (hi : i < l.length) (hq : q l[i] = false) : l.all q = false := List.all_eq_false.2 ⟨_, List.getElem_mem hi, by simp [hq]⟩
set_option maxRecDepth 4000 in
set_option maxHeartbeats 1000000 in
theorem hasRound_y (s : Sp) (p : P2) (b : Bool) (h : p.y < s.y) : DRound Try.prog 0 [.val (.agg (s3 s).toArray)] [.lp 35 [(3, .loc 1 0), (5, .loc 2 0)] #[9] hsrA hsrB .ready none, .flat 25 [.int .i64 p.x, .int .i64 p.y], .flat 4 [.bool b]] false [.lp 35 [(3, .loc 1 0), (5, .loc 2 0)] #[9] hsrA hsrB .done (some (.exit 0)), .flat 25 [.int .i64 p.x, .int .i64 p.y], .flat 4 [.bool b]] := by
  refine dround_go 3 rfl rfl (by simp) rfl rfl fun s0 hs0 => ?_
  refine dwp_holes 1 (by simp only [holes, List.cons_append, List.nil_append]; exact rfl) ?_
  refine zad ?_
  refine walk_w rfl rfl rfl (op_alloc 3 rfl zr40 rfl) (by simp only [upd, zaa, za]; exact rfl) ?_
  refine walk_s rfl rfl (op_stwa rfl tb40 (ev1 rfl) (ev1 rfl) rfl rfl rfl rfl) (by simp only [upd, zaa, za]; exact rfl) ?_
  refine zaf ?_
  refine ⟨rfl, ?_⟩
  simp only [zaa, za]
  refine dwp_block ?_
  refine zae ?_
  refine zae ?_
  refine zad ?_
  refine zab rfl rfl rfl (op_fa rfl fo40_0 (ev1 rfl)) ?_
  refine zab rfl rfl rfl (op_ldo rfl tb3 (ev1 rfl) rfl rfl) ?_
  refine zab rfl rfl rfl (op_fa rfl fo25_1 (ev1 rfl)) ?_
  refine zab rfl rfl rfl (op_ldo rfl tb3 (ev1 rfl) rfl rfl) ?_
  refine zab rfl rfl rfl (op_gtr rfl (ev1 rfl) (ev1 rfl)) ?_
  refine zaf ?_
  refine dwp_if_t rfl (by simpa using h) ?_
  refine dwp_exit ?_
  refine ⟨by first | rfl | assumption | simp_all, rfl, [0, 1, 2], rfl, ⟨rfl, rfl, rfl, trivial⟩⟩
set_option maxRecDepth 4000 in
set_option maxHeartbeats 1000000 in
theorem hasRound_t (s : Sp) (p : P2) (b : Bool) (h : ¬ p.y < s.y ∧ hitB s p = true) : DRound Try.prog 0 [.val (.agg (s3 s).toArray)] [.lp 35 [(3, .loc 1 0), (5, .loc 2 0)] #[9] hsrA hsrB .ready none, .flat 25 [.int .i64 p.x, .int .i64 p.y], .flat 4 [.bool b]] false [.lp 35 [(3, .loc 1 0), (5, .loc 2 0)] #[9] hsrA hsrB .done (some (.exit 0)), .flat 25 [.int .i64 p.x, .int .i64 p.y], .flat 4 [.bool true]] := by
  refine dround_go 3 rfl rfl (by simp) rfl rfl fun s0 hs0 => ?_
  refine dwp_holes 1 (by simp only [holes, List.cons_append, List.nil_append]; exact rfl) ?_
  refine zad ?_
  refine walk_w rfl rfl rfl (op_alloc 3 rfl zr40 rfl) (by simp only [upd, zaa, za]; exact rfl) ?_
  refine walk_s rfl rfl (op_stwa rfl tb40 (ev1 rfl) (ev1 rfl) rfl rfl rfl rfl) (by simp only [upd, zaa, za]; exact rfl) ?_
  refine zaf ?_
  refine ⟨rfl, ?_⟩
  simp only [zaa, za]
  refine dwp_block ?_
  refine zae ?_
  refine zae ?_
  refine zad ?_
  refine zab rfl rfl rfl (op_fa rfl fo40_0 (ev1 rfl)) ?_
  refine zab rfl rfl rfl (op_ldo rfl tb3 (ev1 rfl) rfl rfl) ?_
  refine zab rfl rfl rfl (op_fa rfl fo25_1 (ev1 rfl)) ?_
  refine zab rfl rfl rfl (op_ldo rfl tb3 (ev1 rfl) rfl rfl) ?_
  refine zab rfl rfl rfl (op_gtr rfl (ev1 rfl) (ev1 rfl)) ?_
  refine zaf ?_
  refine dwp_if_f rfl (by simpa using h.1) ?_
  refine dwp_skip ?_
  refine zae ?_
  refine zad ?_
  refine zab rfl rfl rfl (op_fa rfl fo40_0 (ev1 rfl)) ?_
  refine zab rfl rfl rfl (op_ldo rfl tb3 (ev1 rfl) rfl rfl) ?_
  refine zab rfl rfl rfl (op_fa rfl fo25_1 (ev1 rfl)) ?_
  refine zab rfl rfl rfl (op_ldo rfl tb3 (ev1 rfl) rfl rfl) ?_
  refine zab rfl rfl rfl (op_eql rfl (ev1 rfl) (ev1 rfl)) ?_
  refine zab rfl rfl rfl (zac (.inl rfl) (ev1 rfl)) ?_
  refine walk_gr (gd_t rfl rfl rfl) rfl rfl rfl (op_fa rfl fo40_1 (ev1 rfl)) ?_
  refine walk_gr (gd_t rfl rfl rfl) rfl rfl rfl (op_ldo rfl tb3 (ev2 rfl) rfl rfl) ?_
  refine walk_gr (gd_t rfl rfl rfl) rfl rfl rfl (op_fa rfl fo25_0 (ev1 rfl)) ?_
  refine walk_gr (gd_t rfl rfl rfl) rfl rfl rfl (op_ldo rfl tb3 (ev2 rfl) rfl rfl) ?_
  refine walk_gr (gd_t rfl rfl rfl) rfl rfl rfl (op_leq rfl (ev2 rfl) (ev2 rfl)) ?_
  refine zab rfl rfl rfl (op_and rfl (ev1 rfl) (ev3 rfl id)) ?_
  refine zab rfl rfl rfl (zac (.inl rfl) (ev1 rfl)) ?_
  refine walk_gr (gd_t rfl rfl rfl) rfl rfl rfl (op_fa rfl fo25_0 (ev1 rfl)) ?_
  refine walk_gr (gd_t rfl rfl rfl) rfl rfl rfl (op_ldo rfl tb3 (ev2 rfl) rfl rfl) ?_
  refine walk_gr (gd_t rfl rfl rfl) rfl rfl rfl (op_fa rfl fo40_2 (ev1 rfl)) ?_
  refine walk_gr (gd_t rfl rfl rfl) rfl rfl rfl (op_ldo rfl tb3 (ev2 rfl) rfl rfl) ?_
  refine walk_gr (gd_t rfl rfl rfl) rfl rfl rfl (op_leq rfl (ev2 rfl) (ev2 rfl)) ?_
  refine zab rfl rfl rfl (op_and rfl (ev1 rfl) (ev3 rfl id)) ?_
  refine zaf ?_
  refine dwp_if_t rfl (by have := h.2; unfold hitB at this; simp at this; simp [this]) ?_
  refine zae ?_
  refine zad ?_
  refine walk_s rfl rfl (op_stwb rfl tb4 (ev1 rfl) (ev1 rfl) rfl) (by simp only [upd, zaa, za]; exact rfl) ?_
  refine zaf ?_
  refine dwp_exit ?_
  refine ⟨by first | rfl | assumption | simp_all, rfl, [0, 1, 2], rfl, ⟨rfl, rfl, rfl, trivial⟩⟩
set_option maxRecDepth 4000 in
set_option maxHeartbeats 1000000 in
theorem hasRound_g (s : Sp) (p : P2) (b : Bool) (h : ¬ p.y < s.y ∧ hitB s p = false) : DRound Try.prog 0 [.val (.agg (s3 s).toArray)] [.lp 35 [(3, .loc 1 0), (5, .loc 2 0)] #[9] hsrA hsrB .ready none, .flat 25 [.int .i64 p.x, .int .i64 p.y], .flat 4 [.bool b]] true [.lp 35 [(3, .loc 1 0), (5, .loc 2 0)] #[9] hsrA hsrB .ready none, .flat 25 [.int .i64 p.x, .int .i64 p.y], .flat 4 [.bool b]] := by
  refine dround_go 3 rfl rfl (by simp) rfl rfl fun s0 hs0 => ?_
  refine dwp_holes 1 (by simp only [holes, List.cons_append, List.nil_append]; exact rfl) ?_
  refine zad ?_
  refine walk_w rfl rfl rfl (op_alloc 3 rfl zr40 rfl) (by simp only [upd, zaa, za]; exact rfl) ?_
  refine walk_s rfl rfl (op_stwa rfl tb40 (ev1 rfl) (ev1 rfl) rfl rfl rfl rfl) (by simp only [upd, zaa, za]; exact rfl) ?_
  refine zaf ?_
  refine ⟨rfl, ?_⟩
  simp only [zaa, za]
  refine dwp_block ?_
  refine zae ?_
  refine zae ?_
  refine zad ?_
  refine zab rfl rfl rfl (op_fa rfl fo40_0 (ev1 rfl)) ?_
  refine zab rfl rfl rfl (op_ldo rfl tb3 (ev1 rfl) rfl rfl) ?_
  refine zab rfl rfl rfl (op_fa rfl fo25_1 (ev1 rfl)) ?_
  refine zab rfl rfl rfl (op_ldo rfl tb3 (ev1 rfl) rfl rfl) ?_
  refine zab rfl rfl rfl (op_gtr rfl (ev1 rfl) (ev1 rfl)) ?_
  refine zaf ?_
  refine dwp_if_f rfl (by simpa using h.1) ?_
  refine dwp_skip ?_
  refine zae ?_
  refine zad ?_
  refine zab rfl rfl rfl (op_fa rfl fo40_0 (ev1 rfl)) ?_
  refine zab rfl rfl rfl (op_ldo rfl tb3 (ev1 rfl) rfl rfl) ?_
  refine zab rfl rfl rfl (op_fa rfl fo25_1 (ev1 rfl)) ?_
  refine zab rfl rfl rfl (op_ldo rfl tb3 (ev1 rfl) rfl rfl) ?_
  refine zab rfl rfl rfl (op_eql rfl (ev1 rfl) (ev1 rfl)) ?_
  refine zab rfl rfl rfl (zac (.inl rfl) (ev1 rfl)) ?_
  refine walk_gr (gd_t rfl rfl rfl) rfl rfl rfl (op_fa rfl fo40_1 (ev1 rfl)) ?_
  refine walk_gr (gd_t rfl rfl rfl) rfl rfl rfl (op_ldo rfl tb3 (ev2 rfl) rfl rfl) ?_
  refine walk_gr (gd_t rfl rfl rfl) rfl rfl rfl (op_fa rfl fo25_0 (ev1 rfl)) ?_
  refine walk_gr (gd_t rfl rfl rfl) rfl rfl rfl (op_ldo rfl tb3 (ev2 rfl) rfl rfl) ?_
  refine walk_gr (gd_t rfl rfl rfl) rfl rfl rfl (op_leq rfl (ev2 rfl) (ev2 rfl)) ?_
  refine zab rfl rfl rfl (op_and rfl (ev1 rfl) (ev3 rfl id)) ?_
  refine zab rfl rfl rfl (zac (.inl rfl) (ev1 rfl)) ?_
  refine walk_gr (gd_t rfl rfl rfl) rfl rfl rfl (op_fa rfl fo25_0 (ev1 rfl)) ?_
  refine walk_gr (gd_t rfl rfl rfl) rfl rfl rfl (op_ldo rfl tb3 (ev2 rfl) rfl rfl) ?_
  refine walk_gr (gd_t rfl rfl rfl) rfl rfl rfl (op_fa rfl fo40_2 (ev1 rfl)) ?_
  refine walk_gr (gd_t rfl rfl rfl) rfl rfl rfl (op_ldo rfl tb3 (ev2 rfl) rfl rfl) ?_
  refine walk_gr (gd_t rfl rfl rfl) rfl rfl rfl (op_leq rfl (ev2 rfl) (ev2 rfl)) ?_
  refine zab rfl rfl rfl (op_and rfl (ev1 rfl) (ev3 rfl id)) ?_
  refine zaf ?_
  refine dwp_if_f rfl (by rw [← h.2]; unfold hitB; simp [Bool.and_assoc]; rfl) ?_
  refine dwp_skip ?_
  refine ⟨by first | rfl | assumption | simp_all, rfl, [0, 1, 2], rfl, ⟨rfl, rfl, rfl, trivial⟩⟩
theorem hasRound (s : Sp) (p : P2) : DRound Try.prog 0 [.val (.agg (s3 s).toArray)] [.lp 35 [(3, .loc 1 0), (5, .loc 2 0)] #[9] hsrA hsrB .ready none, .flat 25 [.int .i64 p.x, .int .i64 p.y], .flat 4 [.bool false]] (goB s p) [.lp 35 [(3, .loc 1 0), (5, .loc 2 0)] #[9] hsrA hsrB (rst (goB s p)) (rpe (.exit 0) (goB s p)), .flat 25 [.int .i64 p.x, .int .i64 p.y], .flat 4 [.bool (hitB s p)]] := by
  by_cases h : p.y < s.y
  · have e : goB s p = false := by unfold goB; simp [h]
    have e2 : hitB s p = false := by unfold hitB; rw [decide_eq_false (by omega)]; rfl
    rw [e, e2]
    exact hasRound_y s p false h
  · cases hh : hitB s p with
    | true =>
      have e : goB s p = false := by unfold goB; simp [hh]
      rw [e]
      exact hasRound_t s p false ⟨h, hh⟩
    | false =>
      have e : goB s p = true := by unfold goB; simp [hh]; omega
      rw [e]
      exact hasRound_g s p false ⟨h, hh⟩
set_option maxRecDepth 4000 in
set_option maxHeartbeats 1000000 in
theorem told_has (l : List Sp) (hc : chkS l) (p : P2) (hn : l.length ≤ 9223372036854775807) : DFun Try.prog 68 [.yld 0, .loc 3 0] [.lp 35 [(3, .loc 1 0), (5, .loc 2 0)] #[9] hsrA hsrB .ready none, .flat 25 [.int .i64 p.x, .int .i64 p.y], .flat 4 [.bool false], .mix 32 [.slf 3 (l).length ((l).flatMap s3)]] (.tup []) [.lp 35 [(3, .loc 1 0), (5, .loc 2 0)] #[9] hsrA hsrB (rst (l.all fun s => goB s p)) (rpe (.exit 0) (l.all fun s => goB s p)), .flat 25 [.int .i64 p.x, .int .i64 p.y], .flat 4 [.bool (hasB l p)], .mix 32 [.slf 3 (l).length ((l).flatMap s3)]] := by
  refine dcalls_go (N := 19) 4 (by kernel_rfl) Try.func68 rfl rfl rfl (by simp only [fr0, Nat.zero_add, Nat.reduceAdd]; exact rfl) rfl fun s0 hs0 => ?_
  refine zae ?_
  refine zae ?_
  refine zad ?_
  refine zab rfl rfl rfl (op_ldm rfl tb32 (ev1 rfl) rfl rfl) ?_
  refine zab rfl rfl rfl (dop_call [] [] [] rfl (ev1 rfl) (ec (ev1 rfl) en) rfl rfl (check_d l) rfl rfl rfl rfl rfl rfl) ?_
  refine zab rfl rfl rfl (op_neq rfl (ev1 rfl) (ev1 rfl)) ?_
  refine zaf ?_
  refine dwp_if_f rfl (by rw [chkE_ok hc]; rfl) ?_
  refine dwp_skip ?_
  refine zae ?_
  refine zad ?_
  refine zab rfl rfl rfl (op_ldm rfl tb32 (ev1 rfl) rfl rfl) ?_
  refine zab rfl rfl rfl (op_len rfl sl32 (ev1 rfl)) ?_
  refine zab rfl rfl rfl (zac (.inl rfl) (ev1 rfl)) ?_
  refine zaf ?_
  refine dwp_block ?_
  refine dwp_loopS ⟨hs0, rfl⟩ (α := Nat) (fun i => [(10, .val (.int .i64 (i : Int)))]) [(0, _), (8, _), (9, _)] (fun i => []) [_, _, _, _] (fun i => i ≤ l.length ∧ (l.take i).all (fun s => goB s p) = true) (fun i => l.length - i) 0 [0, 1, 2, 3] (⟨Nat.zero_le _, rfl⟩) rfl ⟨rfl, rfl, rfl, trivial⟩ ⟨rfl, trivial⟩ ⟨rfl, rfl, rfl, rfl, trivial⟩ ?_
  intro i hx
  simp only [upd, zaa, za, List.cons_append, List.nil_append]
  obtain ⟨hi0, hall⟩ := hx
  refine zae ?_
  refine zad ?_
  refine zab rfl rfl rfl (op_lss rfl (ev1 rfl) (ev1 rfl)) ?_
  refine zaf ?_
  refine zae ?_
  refine dwp_cond rfl (fun c2 => ?_) (fun c2 => ?_)
  · try simp only [yg, ya, beq_iff_eq, bne_iff_ne, yb, yc, yf, ye, yh, yi, yd, ne_eq, yj, Int.not_lt, Int.not_le] at c2
    refine dwp_skip ?_
    refine zae ?_
    refine dwp_block ?_
    refine zae ?_
    have hi : i < l.length := by omega
    refine dwp_holes 1 (by simp only [holes, List.cons_append, List.nil_append]; exact rfl) ?_
    refine zad ?_
    refine zab rfl rfl rfl (op_ixsr (j := i) rfl sl32 (ev1 rfl) (ev1 rfl) (fun _ => rfl) (by decide) (by omega) (by omega)) ?_
    refine zab rfl rfl rfl (op_ldwd rfl tb40 (ev1 rfl) rfl) ?_
    refine walk_w rfl rfl rfl (op_alloc 4 rfl zr40 rfl) (by simp only [upd, zaa, za]; exact rfl) ?_
    refine walk_s rfl rfl (op_stwa rfl tb40 (ev1 rfl) (ev1 rfl) rfl rfl rfl rfl) (by simp only [upd, zaa, za]; exact rfl) ?_
    refine zaf ?_
    refine zae ?_
    refine zad ?_
    refine zab rfl rfl rfl (zac (.inl rfl) (ev1 rfl)) ?_
    refine zab rfl rfl rfl (op_ldw rfl tb40 (ev1 rfl) rfl rfl) ?_
    refine walk_w rfl rfl rfl (op_y (i := 0) [0, 1, 2] [] [] rfl (ev1 rfl) (ec (ev1 rfl) en) rfl rfl rfl (hasRound l[i] p) rfl rfl rfl rfl rfl) (by simp only [upd, zaa, za]; exact rfl) ?_
    refine zab rfl rfl rfl (op_not rfl (ev1 rfl)) ?_
    refine zaf ?_
    refine dwp_cond rfl (fun c2 => ?_) (fun c2 => ?_)
    · have hg : goB l[i] p = false := by simpa using c2
      refine dwp_ret ?_
      have e1 := hasB_stop hc hi hall hg
      have e2 := all_no (q := fun s => goB s p) hi hg
      rw [e1, e2, hg]
      refine kend [0, 1, 2, 3] (res_none rfl) rfl rfl ?_ ⟨rfl, rfl, rfl, rfl, trivial⟩
      rfl
    · have hg : goB l[i] p = true := by simpa using c2
      refine dwp_skip ?_
      refine zad ?_
      refine zab rfl rfl rfl (op_add' rfl (ev1 rfl) (ev1 rfl) (fun _ => IntWalk.i64_in _ (by omega))) ?_
      refine zab rfl rfl rfl (zac (.inl rfl) (ev1 rfl)) ?_
      refine zaf ?_
      have hnh : hitB l[i] p = false := by unfold goB at hg; revert hg; cases hitB l[i] p <;> simp
      rw [hg, hnh]
      refine ⟨i + 1, [0, 1, 2, 3], ⟨by omega, all_add hi hall hg⟩, by simp only []; omega, rfl, ⟨rfl, rfl, rfl, rfl, trivial⟩, ⟨rfl, rfl, rfl, rfl, trivial⟩⟩
  · try simp only [yg, ya, beq_iff_eq, bne_iff_ne, yb, yc, yf, ye, yh, yi, yd, ne_eq, yj, Int.not_lt, Int.not_le] at c2
    refine dwp_exit ?_
    rw [take_all (by omega)] at hall
    have e1 := hasB_end hall
    rw [e1, hall]
    refine kend [0, 1, 2, 3] (res_none rfl) rfl rfl ?_ ⟨rfl, rfl, rfl, rfl, trivial⟩
    rfl
set_option maxRecDepth 4000 in
set_option maxHeartbeats 1000000 in
theorem told_has_no (l : List Sp) (hc : ¬ chkS l) (p : P2) : DFun Try.prog 68 [.yld 0, .loc 3 0] [.lp 35 [(3, .loc 1 0), (5, .loc 2 0)] #[9] hsrA hsrB .ready none, .flat 25 [.int .i64 p.x, .int .i64 p.y], .flat 4 [.bool false], .mix 32 [.slf 3 (l).length ((l).flatMap s3)]] (.tup []) [.lp 35 [(3, .loc 1 0), (5, .loc 2 0)] #[9] hsrA hsrB .ready none, .flat 25 [.int .i64 p.x, .int .i64 p.y], .flat 4 [.bool false], .mix 32 [.slf 3 (l).length ((l).flatMap s3)]] := by
  refine dcalls_go (N := 19) 4 (by kernel_rfl) Try.func68 rfl rfl rfl (by simp only [fr0, Nat.zero_add, Nat.reduceAdd]; exact rfl) rfl fun s0 hs0 => ?_
  refine zae ?_
  refine zae ?_
  refine zad ?_
  refine zab rfl rfl rfl (op_ldm rfl tb32 (ev1 rfl) rfl rfl) ?_
  refine zab rfl rfl rfl (dop_call [] [] [] rfl (ev1 rfl) (ec (ev1 rfl) en) rfl rfl (check_d l) rfl rfl rfl rfl rfl rfl) ?_
  refine zab rfl rfl rfl (op_neq rfl (ev1 rfl) (ev1 rfl)) ?_
  refine zaf ?_
  refine dwp_if_t rfl (by rw [chkE_no hc]; rfl) ?_
  refine dwp_ret ?_
  refine kend [0, 1, 2, 3] (res_none rfl) rfl rfl ?_ ⟨rfl, rfl, rfl, rfl, trivial⟩
  rfl
set_option maxRecDepth 4000 in
set_option maxHeartbeats 1000000 in
theorem has_ok (l : List Sp) (hc : chkS l) (p : P2) : DFun Try.prog 33 [.slf 3 (l).length ((l).flatMap s3), .val (.agg #[.int .i64 p.x, .int .i64 p.y])] [] (.val (.bool (hasB l p))) [] := by
  refine dcalls_go (N := 35) 0 (by kernel_rfl) Try.func33 rfl rfl rfl (by simp only [fr0, Nat.zero_add, Nat.reduceAdd]; exact rfl) rfl fun s0 hs0 => ?_
  refine dwp_len (t := 0) rfl fun hl0 hL0 => ?_
  refine zae ?_
  refine dwp_holes 1 (by simp only [holes, List.cons_append, List.nil_append]; exact rfl) ?_
  refine zad ?_
  refine walk_w rfl rfl rfl (op_boxa 0 rfl (ev1 rfl) rfl) (by simp only [upd, zaa, za]; exact rfl) ?_
  refine zab rfl rfl rfl (zac (.inr rfl) (ev1 rfl)) ?_
  refine zaf ?_
  refine dwp_scope ?_
  refine zae ?_
  refine dwp_holes 1 (by simp only [holes, List.cons_append, List.nil_append]; exact rfl) ?_
  refine zad ?_
  refine walk_w rfl rfl rfl (op_alloc 1 rfl zr4 rfl) (by simp only [upd, zaa, za]; exact rfl) ?_
  refine walk_s rfl rfl (op_stwb rfl tb4 (ev1 rfl) (ev1 rfl) rfl) (by simp only [upd, zaa, za]; exact rfl) ?_
  refine zaf ?_
  refine zae ?_
  refine dwp_label ?_
  refine zae ?_
  refine zae ?_
  refine dwp_holes 1 (by simp only [holes, List.cons_append, List.nil_append]; exact rfl) ?_
  refine zad ?_
  refine zab rfl rfl rfl (zac (.inl rfl) (ev1 rfl)) ?_
  refine walk_w rfl rfl rfl (dop_call [] [] [2] rfl (ev1 rfl) (ec (ev1 rfl) en) rfl rfl (told_d l) rfl rfl rfl rfl rfl rfl) (by simp only [upd, zaa, za]; exact rfl) ?_
  refine zaf ?_
  refine dwp_block ?_
  refine dwp_hole ?_
  simp only [List.cons_append, List.nil_append]
  refine dwp_rf (FL := [(3, _), (5, _)]) (st := (rst (l.all fun s => goB s p))) (pe := (rpe (.exit 0) (l.all fun s => goB s p))) [3, 0, 1, 2] [] [] 3 rfl rfl (ev1 rfl) rfl (subF_lk ⟨rfl, rfl, trivial⟩) rfl rfl rfl (told_has l hc p hl0) rfl rfl rfl rfl rfl rfl rfl (rst_busy _) (fun e => ?_) (fun c e => ?_)
  · simp only [upd, zaa, za]
    refine zae ?_
    refine zad ?_
    refine zab rfl rfl rfl (op_ldo rfl tb4 (ev1 rfl) rfl rfl) ?_
    refine zab rfl rfl rfl (zac (.inr rfl) (ev1 rfl)) ?_
    refine zaf ?_
    refine dwp_ret ?_
    refine kend0 (rs1 rfl (rv_t rfl)) rfl ?_
    rfl
  · obtain ⟨e1, rfl⟩ : (l.all fun s => goB s p) = false ∧ c = .exit 0 := by
      cases h : (l.all fun s => goB s p) <;> simp_all [rpe]
    simp only [upd, zaa, za]
    refine dwp_exit ?_
    refine zae ?_
    refine zad ?_
    refine zab rfl rfl rfl (op_ldo rfl tb4 (ev1 rfl) rfl rfl) ?_
    refine zab rfl rfl rfl (zac (.inr rfl) (ev1 rfl)) ?_
    refine zaf ?_
    refine dwp_ret ?_
    refine kend0 (rs1 rfl (rv_t rfl)) rfl ?_
    rfl
set_option maxRecDepth 4000 in
set_option maxHeartbeats 1000000 in
theorem has_no (l : List Sp) (hc : ¬ chkS l) (p : P2) : DFun Try.prog 33 [.slf 3 (l).length ((l).flatMap s3), .val (.agg #[.int .i64 p.x, .int .i64 p.y])] [] (.val (.bool false)) [] := by
  refine dcalls_go (N := 35) 0 (by kernel_rfl) Try.func33 rfl rfl rfl (by simp only [fr0, Nat.zero_add, Nat.reduceAdd]; exact rfl) rfl fun s0 hs0 => ?_
  refine dwp_len (t := 0) rfl fun hl0 hL0 => ?_
  refine zae ?_
  refine dwp_holes 1 (by simp only [holes, List.cons_append, List.nil_append]; exact rfl) ?_
  refine zad ?_
  refine walk_w rfl rfl rfl (op_boxa 0 rfl (ev1 rfl) rfl) (by simp only [upd, zaa, za]; exact rfl) ?_
  refine zab rfl rfl rfl (zac (.inr rfl) (ev1 rfl)) ?_
  refine zaf ?_
  refine dwp_scope ?_
  refine zae ?_
  refine dwp_holes 1 (by simp only [holes, List.cons_append, List.nil_append]; exact rfl) ?_
  refine zad ?_
  refine walk_w rfl rfl rfl (op_alloc 1 rfl zr4 rfl) (by simp only [upd, zaa, za]; exact rfl) ?_
  refine walk_s rfl rfl (op_stwb rfl tb4 (ev1 rfl) (ev1 rfl) rfl) (by simp only [upd, zaa, za]; exact rfl) ?_
  refine zaf ?_
  refine zae ?_
  refine dwp_label ?_
  refine zae ?_
  refine zae ?_
  refine dwp_holes 1 (by simp only [holes, List.cons_append, List.nil_append]; exact rfl) ?_
  refine zad ?_
  refine zab rfl rfl rfl (zac (.inl rfl) (ev1 rfl)) ?_
  refine walk_w rfl rfl rfl (dop_call [] [] [2] rfl (ev1 rfl) (ec (ev1 rfl) en) rfl rfl (told_d l) rfl rfl rfl rfl rfl rfl) (by simp only [upd, zaa, za]; exact rfl) ?_
  refine zaf ?_
  refine dwp_block ?_
  refine dwp_hole ?_
  simp only [List.cons_append, List.nil_append]
  refine dwp_rf (FL := [(3, _), (5, _)]) (st := .ready) (pe := none) [3, 0, 1, 2] [] [] 3 rfl rfl (ev1 rfl) rfl (subF_lk ⟨rfl, rfl, trivial⟩) rfl rfl rfl (told_has_no l hc p) rfl rfl rfl rfl rfl rfl rfl (by simp) (fun e => ?_) (fun c e => ?_)
  · simp only [upd, zaa, za]
    refine zae ?_
    refine zad ?_
    refine zab rfl rfl rfl (op_ldo rfl tb4 (ev1 rfl) rfl rfl) ?_
    refine zab rfl rfl rfl (zac (.inr rfl) (ev1 rfl)) ?_
    refine zaf ?_
    refine dwp_ret ?_
    refine kend0 (rs1 rfl (rv_t rfl)) rfl ?_
    rfl
  · cases e
def hasL (l : List Sp) (p : P2) : Bool := decide (chkS l) && hasB l p
theorem has_d (l : List Sp) (p : P2) : DFun Try.prog 33 [.slf 3 (l).length ((l).flatMap s3), .val (.agg #[.int .i64 p.x, .int .i64 p.y])] [] (.val (.bool (hasL l p))) [] := by
  by_cases hc : chkS l
  · have e : hasL l p = hasB l p := by unfold hasL; rw [decide_eq_true hc]; rfl
    rw [e]; exact has_ok l hc p
  · have e : hasL l p = false := by unfold hasL; rw [decide_eq_false hc]; rfl
    rw [e]; exact has_no l hc p
set_option maxRecDepth 4000
set_option maxRecDepth 4000 in
set_option maxHeartbeats 1000000 in
theorem cloneS (l : List Sp) (h : l.length ≤ 5000) : DFun Try.prog 50 [.slf 3 l.length (l.flatMap s3)] [] (.arr 0) [.arr 40 3 l.length (l.flatMap s3)] := by
  refine dcalls_go (N := 8) 0 (by kernel_rfl) Try.func50 rfl rfl rfl (by simp only [fr0, Nat.zero_add, Nat.reduceAdd]; exact rfl) rfl fun s0 hs0 => ?_
  refine dwp_len (t := 0) rfl fun hl0 hL0 => ?_
  refine zae ?_
  refine zad ?_
  refine zab rfl rfl rfl (zac (.inr rfl) (ev1 rfl)) ?_
  refine zaf ?_
  refine zae ?_
  refine zae ?_
  refine zad ?_
  refine zab rfl rfl rfl (zac (.inl rfl) (ev1 rfl)) ?_
  refine walk_nil? rfl rfl rfl rfl sl32 (ev1 rfl) fun nb4 hnb4 => ?_
  refine zaf ?_
  refine dwp_cond rfl (fun c1 => ?_) (fun c1 => ?_)
  · try simp only [yg, ya, beq_iff_eq, bne_iff_ne, yb, yc, yf, ye, yh, yi, yd, ne_eq, yj, Int.not_lt, Int.not_le] at c1
    refine zae ?_
    refine zad ?_
    refine zab rfl rfl rfl (zac (.inr rfl) (ev1 rfl)) ?_
    refine zaf ?_
    refine dwp_adopt 2 40 3 rfl rfl rfl ?_
    refine dwp_ret ?_
    refine kend [0] (rs1 rfl (rv_t rfl)) rfl rfl ?_ ⟨?_, trivial⟩
    rfl
    exact (by obtain ⟨h1, h2⟩ := hnb4 c1; simp_all [MFits, vwB])
  · try simp only [yg, ya, beq_iff_eq, bne_iff_ne, yb, yc, yf, ye, yh, yi, yd, ne_eq, yj, Int.not_lt, Int.not_le] at c1
    refine dwp_skip ?_
    refine zae ?_
    refine dwp_holes 2 (by simp only [holes, List.cons_append, List.nil_append]; exact rfl) ?_
    refine zad ?_
    refine walk_w rfl rfl rfl (op_bsa (ps := []) 0 rfl sl32 zr40 rfl vn rfl (by decide) (by decide) rfl) (by simp only [upd, zaa, za]; exact rfl) ?_
    refine zab rfl rfl rfl (zac (.inl rfl) (ev1 rfl)) ?_
    refine walk_w rfl rfl rfl (op_app (j := 1) rfl sl32 zr40 rfl (ev1 rfl) (ev1 rfl) src_slf rfl rfl (fun _ => flat_oc (fun _ => rfl) l) (fun _ => ⟨by omega, by omega⟩)) (by simp only [upd, zaa, za]; exact rfl) ?_
    refine zab rfl rfl rfl (zac (.inr rfl) (ev1 rfl)) ?_
    refine zaf ?_
    refine dwp_ret ?_
    refine kend [1] (rs1 rfl (rv_t rfl)) rfl rfl ?_ ⟨?_, trivial⟩
    rfl
    simp [vwB]
theorem cloneS_f (l : List Sp) (h : l.length ≤ 5000) : DFun Try.prog 50 [.slf 3 l.length (l.flatMap s3)] [] (.slf 3 l.length (l.flatMap s3)) [] := freeze (cloneS l h) rfl
set_option maxRecDepth 4000 in
set_option maxHeartbeats 1000000 in
theorem all_d (l : List Sp) (h : l.length ≤ 5000) : DFun Try.prog 30 [.slf 3 (l).length ((l).flatMap s3)] [] (.fn (.func 54) [] [.loc 0 0]) [.mix 32 [.slf 3 (l).length ((l).flatMap s3)]] := by
  refine dcalls_go (N := 7) 0 (by kernel_rfl) Try.func30 rfl rfl rfl (by simp only [fr0, Nat.zero_add, Nat.reduceAdd]; exact rfl) rfl fun s0 hs0 => ?_
  refine dwp_len (t := 0) rfl fun hl0 hL0 => ?_
  refine zae ?_
  refine zad ?_
  refine zab rfl rfl rfl (zac (.inr rfl) (ev1 rfl)) ?_
  refine zaf ?_
  refine zae ?_
  refine dwp_holes 1 (by simp only [holes, List.cons_append, List.nil_append]; exact rfl) ?_
  refine zad ?_
  refine zab rfl rfl rfl (zac (.inl rfl) (ev1 rfl)) ?_
  refine zab rfl rfl rfl (dop_call [] [] [] rfl (ev1 rfl) (ec (ev1 rfl) en) rfl rfl (cloneS_f l h) rfl rfl rfl rfl rfl rfl) ?_
  refine walk_w rfl rfl rfl (op_alloc 0 rfl zr32 rfl) (by simp only [upd, zaa, za]; exact rfl) ?_
  refine walk_s rfl rfl (op_stfm rfl tb32 (ev1 rfl) (ev1 rfl) (fun s v h => by cases h <;> exact ⟨rfl, rfl⟩) rfl (by decide)) (by simp only [upd, zaa, za]; exact rfl) ?_
  refine zaf ?_
  refine zae ?_
  refine zad ?_
  refine zab rfl rfl rfl (op_mkf rfl en (ec (ev1 rfl) en)) ?_
  refine zab rfl rfl rfl (zac (.inr rfl) (ev1 rfl)) ?_
  refine zaf ?_
  refine dwp_ret ?_
  refine kend [0] (rs1 rfl (rv_t rfl)) rfl rfl ?_ ⟨rfl, trivial⟩
  rfl
def ptsL (l : List Sp) : List P2 := if chkS l then ptsS l else []
theorem ptsL_ok {l : List Sp} (h : chkS l) : ptsL l = ptsS l := if_pos h
theorem ptsL_no {l : List Sp} (h : ¬ chkS l) : ptsL l = [] := if_neg h
theorem pts_wd (s : Sp) : s.pts.length = s.wd := by unfold Sp.pts; simp
theorem pts_add {s : Sp} {k : Nat} (hk : k < s.wd) : s.pts.take (k + 1) = s.pts.take k ++ [⟨s.f + (k : Int), s.y⟩] := by
  rw [List.take_succ_eq_append_getElem (by rw [pts_wd]; exact hk)]
  congr 1
  unfold Sp.pts
  simp
theorem ptsS_add {l : List Sp} {i : Nat} (hi : i < l.length) : ptsS (l.take (i + 1)) = ptsS (l.take i) ++ l[i].pts := by
  unfold ptsS
  rw [List.take_succ_eq_append_getElem hi, List.flatMap_append]
  simp
theorem pts_mem2 {l : List Sp} {i k : Nat} (hi : i < l.length) (hk : k < l[i].wd) : (⟨l[i].f + (k : Int), l[i].y⟩ : P2) ∈ ptsS l := by
  refine List.mem_flatMap.2 ⟨l[i], List.getElem_mem hi, List.mem_map.2 ⟨k, List.mem_range.2 hk, rfl⟩⟩
set_option maxRecDepth 4000
open Go.ChangeShapes Go.WideShapes Go.ChangeAt Go.Joins Go.Deep
theorem fits_p2 (cs : List Value) (h : fitsP [.int .i64, .int .i64] cs) : ∃ p : P2, p.rng ∧ cs = p2 p := by
  obtain ⟨x0, r, rfl, h0, g1⟩ := fitsP_cons h
  obtain ⟨x1, r, rfl, h1, g2⟩ := fitsP_cons g1
  obtain rfl := fitsP_nil g2
  obtain ⟨x, wx, rfl⟩ := fits_prim_i64 h0
  obtain ⟨y, wy, rfl⟩ := fits_prim_i64 h1
  exact ⟨⟨x, y⟩, ⟨wx, wy⟩, rfl⟩
theorem fits_s3 (cs : List Value) (h : fitsP [.int .i64, .int .i64, .int .i64] cs) : ∃ p : Sp, p.rng ∧ cs = s3 p := by
  obtain ⟨x0, r, rfl, h0, g1⟩ := fitsP_cons h
  obtain ⟨x1, r, rfl, h1, g2⟩ := fitsP_cons g1
  obtain ⟨x2, r, rfl, h2, g3⟩ := fitsP_cons g2
  obtain rfl := fitsP_nil g3
  obtain ⟨x, wx, rfl⟩ := fits_prim_i64 h0
  obtain ⟨y, wy, rfl⟩ := fits_prim_i64 h1
  obtain ⟨z, wz, rfl⟩ := fits_prim_i64 h2
  exact ⟨⟨x, y, z⟩, ⟨wx, wy, wz⟩, rfl⟩
theorem fits_bx (cs : List Value) (h : fitsP [.int .i64, .int .i64, .int .i64, .int .i64] cs) : ∃ p : Bx, p.rng ∧ cs = bx4 p := by
  obtain ⟨x0, r, rfl, h0, g1⟩ := fitsP_cons h
  obtain ⟨x1, r, rfl, h1, g2⟩ := fitsP_cons g1
  obtain ⟨x2, r, rfl, h2, g3⟩ := fitsP_cons g2
  obtain ⟨x3, r, rfl, h3, g4⟩ := fitsP_cons g3
  obtain rfl := fitsP_nil g4
  obtain ⟨x, wx, rfl⟩ := fits_prim_i64 h0
  obtain ⟨y, wy, rfl⟩ := fits_prim_i64 h1
  obtain ⟨z, wz, rfl⟩ := fits_prim_i64 h2
  obtain ⟨u, wu, rfl⟩ := fits_prim_i64 h3
  exact ⟨⟨x, y, z, u⟩, ⟨⟨wx, wy⟩, wz, wu⟩, rfl⟩
set_option maxRecDepth 4000
noncomputable def alrA : Code := rfA (pth [1, 1, 0] (bodyOf Try.f54))
noncomputable def alrB : Code := rfB (pth [1, 1, 0] (bodyOf Try.f54))
set_option maxRecDepth 4000
theorem un4 : Try.prog.underlying 4 = some .bool := by kernel_rfl
def fewL (l : List Sp) : List Sp := l.take (min l.length 40)
theorem fewL_len (l : List Sp) : (fewL l).length ≤ 40 := by unfold fewL; rw [List.length_take]; omega
theorem norm_chk {l : List Sp} (h : ∀ s ∈ l, rchS s ∧ s.f ≤ s.t) : chkS (normS l) := by
  have hn := norm_ok fun s hs => (h s hs).2
  refine ⟨fun s hs => ?_, hn.1.2⟩
  have hv := hn.1.1 s hs
  have hb := has_bd (A := -256) (B := 255) (C := -256) (D' := 255) hn.1.1 hn.2 (fun s hs => by
    have := (h s hs).1
    unfold rchS at this
    omega) s hs
  refine ⟨?_, hv⟩
  unfold rchS
  omega
theorem uni_chk {rr : List (List Sp)} (h : allC rr = true) : chkS (uniL rr) := by
  rw [(uni_ok h).1]
  exact norm_chk (allC_flat h)
theorem uni_has {rr : List (List Sp)} (h : allC rr = true) (x y : Int) : hasS (uniL rr) x y ↔ ∃ l ∈ rr, hasS l x y := by
  rw [(uni_ok h).1, (norm_ok fun s hs => (allC_flat h s hs).2).2]
  constructor
  · rintro ⟨s, hs, g⟩
    obtain ⟨l, hl, h1⟩ := List.mem_flatten.1 hs
    exact ⟨l, hl, s, h1, g⟩
  · rintro ⟨l, hl, s, hs, g⟩
    exact ⟨s, List.mem_flatten.2 ⟨l, hl, hs⟩, g⟩
structure UniLaws (a b u : List Sp) : Prop where
  chk : chkS u
  v : uniL [b, a, b, u] = u
  ve : uniE [b, a, b, u] = 0
  o : uniL [u] = u
  oe : uniE [u] = 0
  has : ∀ x y, hasS u x y ↔ hasS a x y ∨ hasS b x y
  ca : chkS a
  cb : chkS b
theorem hasL_iff {l : List Sp} (h : chkS l) (p : P2) : hasL l p = true ↔ hasS l p.x p.y := by unfold hasL hasB; rw [decide_eq_true h, Bool.true_and, decide_eq_true_eq]
theorem UniLaws.pts {a b u : List Sp} (h : UniLaws a b u) : ∀ p ∈ ptsS a, hasL u p = true := fun p hp => (hasL_iff h.chk p).2 ((h.has p.x p.y).2 (.inl (ptsS_mem.1 hp)))
set_option maxRecDepth 4000 in
set_option maxHeartbeats 1000000 in
theorem few_d (l : List Sp) : DFun Try.prog 25 [.slf 3 (l).length ((l).flatMap s3)] [] (.slf 3 ((fewL l)).length (((fewL l)).flatMap s3)) [] := by
  refine dcalls_go (N := 9) 0 (by kernel_rfl) Try.func25 rfl rfl rfl (by simp only [fr0, Nat.zero_add, Nat.reduceAdd]; exact rfl) rfl fun s0 hs0 => ?_
  refine dwp_len (t := 0) rfl fun hl0 hL0 => ?_
  refine zae ?_
  refine zad ?_
  refine zab rfl rfl rfl (zac (.inr rfl) (ev1 rfl)) ?_
  refine zaf ?_
  refine zae ?_
  refine zad ?_
  refine zab rfl rfl rfl (zac (.inl rfl) (ev1 rfl)) ?_
  refine zab rfl rfl rfl (zac (.inl rfl) (ev1 rfl)) ?_
  refine zab rfl rfl rfl (op_len rfl sl32 (ev1 rfl)) ?_
  refine zab rfl rfl rfl (op_min rfl (ev1 rfl) (ev1 rfl)) ?_
  refine zab rfl rfl rfl (op_sltk (j := min l.length 40) rfl sl32 (ev1 rfl) (bd_some (ev1 rfl)) (fun _ => by omega) (fun _ => by omega) (fun _ => rfl)) ?_
  refine zab rfl rfl rfl (dop_call [] [] [] rfl (ev1 rfl) (ec (ev1 rfl) en) rfl rfl (cloneS_f _ (by have := fewL_len l; unfold fewL at this; omega)) rfl rfl rfl rfl rfl rfl) ?_
  refine zab rfl rfl rfl (zac (.inr rfl) (ev1 rfl)) ?_
  refine zaf ?_
  refine dwp_ret ?_
  refine kend0 (rs1 rfl (rv_t rfl)) rfl ?_
  rfl
set_option maxRecDepth 4000
theorem tb53 : tyB Try.prog 53 = some (true, 4) := by kernel_rfl
set_option maxRecDepth 4000
theorem sl78 : slE Try.prog 78 = some (80, 1, 24) := by kernel_rfl
theorem sl80 : slE Try.prog 80 = some (4, 1, 1) := by kernel_rfl
theorem tb80 : tyB Try.prog 80 = some (false, 1) := by kernel_rfl
theorem zr80 : zrC Try.prog 80 = some [.slice none 0 0] := by kernel_rfl
def rowN (X Y : Int) (w : Nat) (pts : List P2) (j : Nat) : List Bool := (List.range w).map fun i : Nat => decide ((⟨X + (i : Int), Y + (j : Int)⟩ : P2) ∈ pts)
def bV (b : Bool) : List Value := [.bool b]
def fmF (X Y : Int) (w h : Nat) (pts : List P2) : List Mem := (List.range h).map fun j => Mem.arr 4 1 w ((rowN X Y w pts j).flatMap bV)
theorem rowN_len (X Y : Int) (w : Nat) (pts : List P2) (j : Nat) : (rowN X Y w pts j).length = w := by unfold rowN; simp
theorem fmF_at {X Y : Int} {w h : Nat} {pts : List P2} {j : Nat} (hj : j < h) : (fmF X Y w h pts)[j]? = some (.arr 4 1 w ((rowN X Y w pts j).flatMap bV)) := by
  unfold fmF
  rw [List.getElem?_map, List.getElem?_range hj]
  rfl
theorem fmF_len (X Y : Int) (w h : Nat) (pts : List P2) : (fmF X Y w h pts).length = h := by unfold fmF; simp
theorem rowN_get {X Y : Int} {w : Nat} {pts : List P2} {j i : Nat} (hi : i < (rowN X Y w pts j).length) : (rowN X Y w pts j)[i] = decide ((⟨X + (i : Int), Y + (j : Int)⟩ : P2) ∈ pts) := by simp only [rowN, List.getElem_map, List.getElem_range]
theorem fmF_add {X Y : Int} {w h : Nat} {pts : List P2} {j i : Nat} (hj : j < h) (hi : i < w) : (fmF X Y w h pts).set j (.arr 4 1 w (((rowN X Y w pts j).set i true).flatMap bV)) = fmF X Y w h (pts ++ [⟨X + (i : Int), Y + (j : Int)⟩]) := by
  apply List.ext_getElem?
  intro q
  by_cases hq : q < h
  · rw [fmF_at hq]
    by_cases e : j = q
    · subst e
      rw [List.getElem?_set_self (by rw [fmF_len]; exact hj)]
      congr 3
      apply List.ext_getElem
      · rw [List.length_set, rowN_len, rowN_len]
      · intro k h1 h2
        rw [rowN_get, List.getElem_set]
        by_cases e : i = k
        · subst e; simp
        · rw [if_neg e, rowN_get, decide_eq_decide, List.mem_append]
          constructor
          · exact fun h => .inl h
          · rintro (h | h)
            · exact h
            · have := congrArg P2.x (List.mem_singleton.1 h)
              simp only at this
              omega
    · rw [List.getElem?_set_ne e, fmF_at hq]
      congr 3
      apply List.ext_getElem
      · rw [rowN_len, rowN_len]
      · intro k h1 h2
        rw [rowN_get, rowN_get, decide_eq_decide, List.mem_append]
        constructor
        · exact fun h => .inl h
        · rintro (h | h)
          · exact h
          · have := congrArg P2.y (List.mem_singleton.1 h)
            simp only at this
            omega
  · rw [List.getElem?_eq_none (by rw [List.length_set, fmF_len]; omega), List.getElem?_eq_none (by rw [fmF_len]; omega)]
def rngN (n : Nat) : List Nat := List.range n
theorem names_rng {f h j : Nat} (hj : j < h) : ((rngN h).flatMap fun k => [D.farr f k])[j * 1]? = some (.farr f j) := by rw [Nat.mul_one]; exact names_at (List.getElem?_range hj)
theorem bl_row (X Y : Int) (w j : Nat) : (rowN X Y w [] j).flatMap bV = List.replicate w (Value.bool false) := by
  have e : rowN X Y w [] j = List.replicate w false := by
    refine List.eq_replicate_iff.2 ⟨rowN_len .., fun b hb => ?_⟩
    obtain ⟨i, _, rfl⟩ := List.mem_map.1 hb
    simp
  rw [e]
  have : ∀ n : Nat, (List.replicate n false).flatMap bV = List.replicate n (Value.bool false) := fun n => by
    induction n with
    | zero => rfl
    | succ n ih => rw [List.replicate_succ, List.flatMap_cons, ih]; rfl
  exact this w
theorem bl_add (X Y : Int) (w k : Nat) : fmF X Y w k [] ++ [Mem.arr 4 1 w (List.replicate w (Value.bool false))] = fmF X Y w (k + 1) [] := by
  unfold fmF
  rw [List.range_succ, List.map_append, List.map_cons, List.map_nil, bl_row X Y w k]
theorem rng_add (f k : Nat) : ((rngN k).flatMap fun k => [D.farr f k]) ++ [D.farr f k] = (rngN (k + 1)).flatMap fun k => [D.farr f k] := by unfold rngN; rw [List.range_succ, List.flatMap_append]; rfl
def inF (pts : List P2) (p : P2) : Bool := decide (p ∈ pts)
def rowK (X Y : Int) (w : Nat) (pts : List P2) (k : Nat) : List Sp := runS ((fieldN w k X Y).filter (inF pts))
theorem rowK_beh {X Y : Int} {w : Nat} (hw : 0 < w) (pts : List P2) (k : Nat) : ((fieldN w k X Y).filter (inF pts)).Pairwise beh := (field_beh hw k X Y).sublist List.filter_sublist
theorem rowK_len {X Y : Int} {w : Nat} (pts : List P2) (k : Nat) : (rowK X Y w pts k).length ≤ k := by
  unfold rowK runS
  have h1 := merges_len (((fieldN w k X Y).filter (inF pts)).map pt1) []
  have h2 := List.length_filter_le (inF pts) (fieldN w k X Y)
  rw [fieldN_len] at h2
  rw [List.length_map, List.length_nil] at h1
  omega
theorem rowK_end {X Y : Int} {w y x : Nat} (hx : x < w) (pts : List P2) : endS (rowK X Y w pts (y * w + x)) ⟨X + (x : Int), Y + (y : Int)⟩ := by
  refine endS_run (rowK_beh (by omega) ..) fun q hq => ?_
  have h := field_before (w := w) (n := y * w + x) (X := X) (Y := Y) (by omega) q (List.mem_filter.1 hq).1
  rw [ix_mod hx, ix_div hx] at h
  exact h
theorem rowK_no {X Y : Int} {w y x : Nat} (hx : x < w) {pts : List P2} (h : inF pts ⟨X + (x : Int), Y + (y : Int)⟩ = false) : rowK X Y w pts (y * w + (x + 1)) = rowK X Y w pts (y * w + x) := by
  unfold rowK
  rw [field_at hx, List.filter_append, List.filter_cons, if_neg (by rw [h]; decide), List.filter_nil, List.append_nil]
theorem rowK_yes {X Y : Int} {w y x : Nat} (hx : x < w) {pts : List P2} (h : inF pts ⟨X + (x : Int), Y + (y : Int)⟩ = true) : rowK X Y w pts (y * w + (x + 1)) = mergeS (rowK X Y w pts (y * w + x)) (pt1 ⟨X + (x : Int), Y + (y : Int)⟩) := by
  unfold rowK
  rw [field_at hx, List.filter_append, List.filter_cons, if_pos h, List.filter_nil, runS_add]
theorem opn_no {out : List Sp} {p q : P2} (he : endS out p) (hy : q.y = p.y) (hx : q.x = p.x + 1) : opnS out q = false := by
  rcases list_last out with rfl | ⟨l, a, rfl⟩
  · rfl
  · rw [opnS_app, decide_eq_false_iff_not]
    have := he a (by simp)
    omega
theorem opn_first {X Y : Int} {w y : Nat} (hw : 0 < w) (pts : List P2) : opnS (rowK X Y w pts (y * w)) ⟨X, Y + (y : Int)⟩ = false := by
  have he := rowK_end (X := X) (Y := Y) (y := y) (x := 0) hw pts
  rcases list_last (rowK X Y w pts (y * w)) with h | ⟨l, a, h⟩
  · rw [h]; rfl
  · rw [h, opnS_app, decide_eq_false_iff_not]
    rw [Nat.add_zero, h] at he
    have h1 := he a (by simp)
    simp only at h1
    intro h2
    have hm : (⟨a.t, a.y⟩ : P2) ∈ (fieldN w (y * w) X Y).filter (inF pts) := by
      refine ((run_ok (rowK_beh hw pts (y * w))).2 a.t a.y).1 ?_
      show hasS (rowK X Y w pts (y * w)) a.t a.y
      rw [h]
      have hv := (run_ok (rowK_beh (X := X) (Y := Y) hw pts (y * w))).1.1 a (by show a ∈ rowK X Y w pts (y * w); rw [h]; simp)
      exact ⟨a, by simp, rfl, hv, Int.le_refl _⟩
    have h3 : (X ≤ a.t ∧ a.t < X + w) ∧ Y ≤ a.y ∧ a.y < Y + y := (field_mem (h := y) hw).1 (List.mem_filter.1 hm).1
    have h4 : a.y = Y + (y : Int) ∧ a.t + 1 = X := h2
    omega
theorem opn_merge {out : List Sp} {p q : P2} (he : endS out p) (hy : q.y = p.y) (hx : q.x = p.x + 1) : opnS (mergeS out (pt1 p)) q = true := by
  cases h : opnS out p with
  | true =>
    obtain ⟨l, a, rfl, h1, h2⟩ := opn_last h
    rw [merge_open ⟨h1, h2⟩, opnS_app, decide_eq_true_eq]
    simp only
    omega
  | false =>
    rw [merge_shut he h, opnS_app, decide_eq_true_eq]
    unfold pt1
    simp only
    omega
theorem rowK_has {X Y : Int} {w h : Nat} (hw : 0 < w) (pts : List P2) : okS (rowK X Y w pts (h * w)) ∧ ∀ x y, hasS (rowK X Y w pts (h * w)) x y ↔ ((X ≤ x ∧ x < X + w) ∧ Y ≤ y ∧ y < Y + h) ∧ (⟨x, y⟩ : P2) ∈ pts := by
  have hr := run_ok (rowK_beh (X := X) (Y := Y) hw pts (h * w))
  refine ⟨hr.1, fun x y => (hr.2 x y).trans ?_⟩
  rw [List.mem_filter, field_mem hw]
  unfold inF
  rw [decide_eq_true_eq]
theorem reb_eq {k k' : Blk} (h : k = k') : ∀ s v, BlkOk s v k → BlkOk s v k' := fun s v hk => h ▸ hk
theorem row_set1 {out : List Sp} {p : P2} (he : endS out p) (h : opnS out p = false) : (out ++ [pt1 p]).set ((out ++ [pt1 p]).length - 1) ⟨(lastS (out ++ [pt1 p])).y, (lastS (out ++ [pt1 p])).f, p.x⟩ = mergeS out (pt1 p) := by
  rw [merge_shut he h, lastS_app]
  simp [pt1]
theorem row_set2 {out : List Sp} {p : P2} (h : opnS out p = true) : out.set (out.length - 1) ⟨(lastS out).y, (lastS out).f, p.x⟩ = mergeS out (pt1 p) := by
  obtain ⟨l, a, rfl, h1, h2⟩ := opn_last h
  rw [merge_open ⟨h1, h2⟩, lastS_app]
  simp
theorem opn_first' {X Y : Int} {w y : Nat} (hw : 0 < w) (pts : List P2) : opnS (rowK X Y w pts (y * w + 0)) ⟨X + ((0 : Nat) : Int), Y + (y : Int)⟩ = false := by
  have := opn_first (X := X) (Y := Y) (y := y) hw pts
  rw [Nat.add_zero, show X + ((0 : Nat) : Int) = X by omega]
  exact this
set_option maxRecDepth 4000 in
set_option maxHeartbeats 1000000 in
theorem blank_d (X Y : Int) (w h : Nat) (hX : -1000 ≤ X ∧ X ≤ 1000) (hY : -1000 ≤ Y ∧ Y ≤ 1000) (hw : 0 < w ∧ w ≤ 1000) (hh : h ≤ 1000) : DFun Try.prog 41 [.val (.agg #[.int .i64 X, .int .i64 Y, .int .i64 (X + (w : Int) - 1), .int .i64 (Y + (h : Int) - 1)])] [] (.arr 0) [.arx 80 1 h ((rngN h).flatMap fun k => [.farr 1 k]), .fam (fmF X Y w h ([]))] := by
  refine dcalls_go (N := 24) 0 (by kernel_rfl) Try.func41 rfl rfl rfl (by simp only [fr0, Nat.zero_add, Nat.reduceAdd]; exact rfl) rfl fun s0 hs0 => ?_
  refine zae ?_
  refine dwp_holes 1 (by simp only [holes, List.cons_append, List.nil_append]; exact rfl) ?_
  refine zad ?_
  refine walk_w rfl rfl rfl (op_boxa 0 rfl (ev1 rfl) rfl) (by simp only [upd, zaa, za]; exact rfl) ?_
  refine zab rfl rfl rfl (zac (.inr rfl) (ev1 rfl)) ?_
  refine zaf ?_
  refine zae ?_
  refine zad ?_
  refine zab rfl rfl rfl (zac (.inr rfl) (ev1 rfl)) ?_
  refine zaf ?_
  refine zae ?_
  refine zae ?_
  refine dwp_hole ?_
  refine dwp_fam 1 rfl (by simp only [List.cons_append, List.nil_append, zaa, za]; exact rfl) ?_
  refine zad ?_
  refine zab rfl rfl rfl (op_fa rfl fo53_3 (ev1 rfl)) ?_
  refine zab rfl rfl rfl (op_ldo rfl tb3 (ev1 rfl) rfl rfl) ?_
  refine zab rfl rfl rfl (op_fa rfl fo53_1 (ev1 rfl)) ?_
  refine zab rfl rfl rfl (op_ldo rfl tb3 (ev1 rfl) rfl rfl) ?_
  refine zab rfl rfl rfl (op_sub' rfl (ev1 rfl) (ev1 rfl) (fun _ => IntWalk.i64_in _ (by omega))) ?_
  refine zab rfl rfl rfl (op_add' rfl (ev1 rfl) (ev1 rfl) (fun _ => IntWalk.i64_in _ (by omega))) ?_
  refine zab rfl rfl rfl (zac (.inl rfl) (ev1 rfl)) ?_
  refine zaf ?_
  refine dwp_block ?_
  refine dwp_adopt 3 80 1 rfl rfl rfl ?_
  refine dwp_reb 2 reb_arx rfl rfl (by simp only [List.cons_append, List.nil_append, zaa, za, List.map]; exact rfl) ?_
  refine dwp_loopS ⟨hs0, rfl⟩ (α := Nat) (fun k => [(10, .val (.int .i64 (k : Int)))]) [(1, _), (3, _), (9, _)] (fun k => [(1, .fam (fmF X Y w k ([]))), (2, .arx 80 1 k ((rngN k).flatMap fun k => [.farr 1 k]))]) [_, .hole, .hole] (fun k => k ≤ h) (fun k => h - k) 0 [0, 1, 2] (Nat.zero_le _) rfl ⟨rfl, rfl, rfl, trivial⟩ ⟨rfl, trivial⟩ ⟨rfl, rfl, rfl, trivial⟩ ?_
  intro k hx
  simp only [upd, zaa, za, List.cons_append, List.nil_append]
  have hk0 := hx
  refine zae ?_
  refine zad ?_
  refine zab rfl rfl rfl (op_lss rfl (ev1 rfl) (ev1 rfl)) ?_
  refine zaf ?_
  refine zae ?_
  refine dwp_cond rfl (fun c1 => ?_) (fun c1 => ?_)
  · try simp only [yg, ya, beq_iff_eq, bne_iff_ne, yb, yc, yf, ye, yh, yi, yd, ne_eq, yj, Int.not_lt, Int.not_le] at c1
    refine dwp_skip ?_
    refine zae ?_
    refine dwp_block ?_
    refine dwp_holes 3 (by simp only [holes, List.cons_append, List.nil_append]; exact rfl) ?_
    refine zad ?_
    refine zab rfl rfl rfl (zac (.inl rfl) (ev1 rfl)) ?_
    refine zab rfl rfl rfl (op_fa rfl fo53_2 (ev1 rfl)) ?_
    refine zab rfl rfl rfl (op_ldo rfl tb3 (ev1 rfl) rfl rfl) ?_
    refine zab rfl rfl rfl (op_fa rfl fo53_0 (ev1 rfl)) ?_
    refine zab rfl rfl rfl (op_ldo rfl tb3 (ev1 rfl) rfl rfl) ?_
    refine zab rfl rfl rfl (op_sub' rfl (ev1 rfl) (ev1 rfl) (fun _ => IntWalk.i64_in _ (by omega))) ?_
    refine zab rfl rfl rfl (op_add' rfl (ev1 rfl) (ev1 rfl) (fun _ => IntWalk.i64_in _ (by omega))) ?_
    refine walk_w rfl rfl rfl (op_mkg 3 (w) (.bool false) rfl sl80 zr4 (by kernel_rfl) (by decide) (ev1 rfl) (ev1 rfl) (fun _ => by omega) (fun _ => by omega) rfl (fun _ => ⟨by omega, by omega⟩)) (by simp only [upd, zaa, za]; exact rfl) ?_
    refine walk_abs 19 1 rfl rfl rfl (by simp only [zaa, za]; exact rfl) ?_
    refine walk_w rfl rfl rfl (op_bsx (ps := [(0, .tmp 19)]) 4 (fun s d v hd hr => by simp only [List.mem_cons, List.not_mem_nil, or_false] at hd; subst hd <;> first | exact rep_own_cells hr | (cases hr <;> rfl)) rfl sl78 zr80 rfl (ec (ev1 rfl) en) (by decide) rfl) (by simp only [upd, zaa, za]; exact rfl) ?_
    refine walk_w rfl rfl rfl (op_appxx (j := 5) rfl sl78 zr80 rfl (ev1 rfl) (ev1 rfl) rfl rfl rfl rfl (fun _ => ⟨by omega, by omega⟩)) (by simp only [upd, zaa, za]; exact rfl) ?_
    refine zab rfl rfl rfl (zac (.inr rfl) (ev1 rfl)) ?_
    refine zaf ?_
    refine zad ?_
    refine zab rfl rfl rfl (op_add' rfl (ev1 rfl) (ev1 rfl) (fun _ => IntWalk.i64_in _ (by omega))) ?_
    refine zab rfl rfl rfl (zac (.inl rfl) (ev1 rfl)) ?_
    refine zaf ?_
    refine ⟨k + 1, [0, 1, 5], by omega, by simp only []; omega, rfl, ⟨rfl, rfl, rfl, rfl, trivial⟩, ⟨rfl, (by rw [← bl_add, Nat.mul_one w]; rfl), (by rw [fmF_len, rng_add]; exact arxg_fits (by first | rfl | omega) rfl (fun _ => rfl)), trivial⟩⟩
  · try simp only [yg, ya, beq_iff_eq, bne_iff_ne, yb, yc, yf, ye, yh, yi, yd, ne_eq, yj, Int.not_lt, Int.not_le] at c1
    refine dwp_exit ?_
    refine zae ?_
    refine zad ?_
    refine zab rfl rfl rfl (zac (.inl rfl) (ev1 rfl)) ?_
    refine zab rfl rfl rfl (zac (.inr rfl) (ev1 rfl)) ?_
    refine zaf ?_
    refine dwp_ret ?_
    obtain rfl : k = h := by omega
    refine kend [2, 1] (rs1 rfl (rv_t rfl)) rfl rfl ?_ ⟨?_, ?_, trivial⟩
    rfl
    all_goals first | exact rfl | exact arxg_fits (by first | rfl | omega) rfl (fun _ => rfl)
set_option maxRecDepth 4000 in
set_option maxHeartbeats 1000000 in
theorem rrow_d (X Y : Int) (w h : Nat) (hX : -1000 ≤ X ∧ X ≤ 1000) (hY : -1000 ≤ Y ∧ Y ≤ 1000) (hw : 0 < w ∧ w ≤ 1000) (hh : h ≤ 1000) (pts : List P2) (hm : h * w ≤ 1000000) : DFun Try.prog 42 [.val (.agg #[.int .i64 X, .int .i64 Y, .int .i64 (X + (w : Int) - 1), .int .i64 (Y + (h : Int) - 1)]), .arr 0] [.arx 80 1 h ((rngN h).flatMap fun k => [.farr 1 k]), .fam (fmF X Y w h (pts))] (.arr 2) [.arx 80 1 h ((rngN h).flatMap fun k => [.farr 1 k]), .fam (fmF X Y w h (pts)), .arr 40 3 (rowK X Y w pts (h * w)).length ((rowK X Y w pts (h * w)).flatMap s3)] := by
  refine dcalls_go (N := 56) 2 (by kernel_rfl) Try.func42 rfl rfl rfl (by simp only [fr0, Nat.zero_add, Nat.reduceAdd]; exact rfl) rfl fun s0 hs0 => ?_
  refine zae ?_
  refine dwp_holes 1 (by simp only [holes, List.cons_append, List.nil_append]; exact rfl) ?_
  refine zad ?_
  refine walk_w rfl rfl rfl (op_boxa 2 rfl (ev1 rfl) rfl) (by simp only [upd, zaa, za]; exact rfl) ?_
  refine zab rfl rfl rfl (zac (.inr rfl) (ev1 rfl)) ?_
  refine zaf ?_
  refine zae ?_
  refine zad ?_
  refine zab rfl rfl rfl (zac (.inr rfl) (ev1 rfl)) ?_
  refine zaf ?_
  refine zae ?_
  refine zae ?_
  refine zad ?_
  refine zab rfl rfl rfl (op_fa rfl fo53_1 (ev1 rfl)) ?_
  refine zab rfl rfl rfl (op_ldo rfl tb3 (ev1 rfl) rfl rfl) ?_
  refine zab rfl rfl rfl (zac (.inr rfl) (ev1 rfl)) ?_
  refine zaf ?_
  refine dwp_block ?_
  refine dwp_adopt 5 40 3 rfl rfl rfl ?_
  refine dwp_loopS ⟨hs0, rfl⟩ (α := Nat) (fun y => [(6, .val (.int .i64 (Y + (y : Int))))]) [(1, _), (2, _), (5, _)] (fun y => [(3, .arr 40 3 (rowK X Y w pts (y * w)).length ((rowK X Y w pts (y * w)).flatMap s3))]) [_, _, _, .hole] (fun y => y ≤ h) (fun y => h - y) 0 [0, 1, 2, 3] (Nat.zero_le _) rfl ⟨rfl, rfl, rfl, trivial⟩ ⟨congrArg (fun z => some (D.val (.int .i64 z))) (by first | rfl | omega), trivial⟩ ⟨arxg_fits (by first | rfl | omega) rfl (fun _ => rfl), rfl, rfl, (by rw [Nat.zero_mul]; rfl), trivial⟩ ?_
  intro y hx
  simp only [upd, zaa, za, List.cons_append, List.nil_append]
  have hy0 := hx
  have hyw : y * w ≤ h * w := Nat.mul_le_mul_right _ hy0
  refine zae ?_
  refine zae ?_
  refine zad ?_
  refine zab rfl rfl rfl (zac (.inl rfl) (ev1 rfl)) ?_
  refine zab rfl rfl rfl (op_fa rfl fo53_3 (ev1 rfl)) ?_
  refine zab rfl rfl rfl (op_ldo rfl tb3 (ev1 rfl) rfl rfl) ?_
  refine zab rfl rfl rfl (op_leq rfl (ev1 rfl) (ev1 rfl)) ?_
  refine zaf ?_
  refine dwp_cond rfl (fun c1 => ?_) (fun c1 => ?_)
  · try simp only [yg, ya, beq_iff_eq, bne_iff_ne, yb, yc, yf, ye, yh, yi, yd, ne_eq, yj, Int.not_lt, Int.not_le] at c1
    refine dwp_skip ?_
    refine zae ?_
    refine dwp_block ?_
    refine zae ?_
    refine zad ?_
    refine zab rfl rfl rfl (zac (.inr rfl) (ev1 rfl)) ?_
    refine zaf ?_
    refine zae ?_
    refine zad ?_
    refine zab rfl rfl rfl (op_fa rfl fo53_0 (ev1 rfl)) ?_
    refine zab rfl rfl rfl (op_ldo rfl tb3 (ev1 rfl) rfl rfl) ?_
    refine zab rfl rfl rfl (zac (.inr rfl) (ev1 rfl)) ?_
    refine zaf ?_
    refine dwp_block ?_
    refine dwp_loopS ⟨hs0, rfl⟩ (α := Nat) (fun x => [(7, .val (.bool (opnS (rowK X Y w pts (y * w + x)) ⟨X + ((x : Nat) : Int), Y + (y : Int)⟩))), (8, .val (.int .i64 (X + (x : Int))))]) [(1, _), (2, _), (5, _), (6, _)] (fun x => [(3, .arr 40 3 (rowK X Y w pts (y * w + x)).length ((rowK X Y w pts (y * w + x)).flatMap s3))]) [_, _, _, .hole] (fun x => x ≤ w) (fun x => w - x) 0 [0, 1, 2, 3] (Nat.zero_le _) rfl ⟨rfl, rfl, rfl, rfl, trivial⟩ ⟨congrArg (fun z => some (D.val (.bool z))) ((opn_first' hw.1 pts).symm), congrArg (fun z => some (D.val (.int .i64 z))) (by first | rfl | omega), trivial⟩ ⟨arxg_fits (by first | rfl | omega) rfl (fun _ => rfl), rfl, rfl, (by rw [Nat.add_zero]; rfl), trivial⟩ ?_
    intro x hx
    simp only [upd, zaa, za, List.cons_append, List.nil_append]
    have hx0 := hx
    have hrl := rowK_len (X := X) (Y := Y) (w := w) pts (y * w + x)
    have hyw2 : (y + 1) * w ≤ h * w := Nat.mul_le_mul_right _ (by omega)
    rw [Nat.succ_mul] at hyw2
    refine zae ?_
    refine zae ?_
    refine zad ?_
    refine zab rfl rfl rfl (zac (.inl rfl) (ev1 rfl)) ?_
    refine zab rfl rfl rfl (op_fa rfl fo53_2 (ev1 rfl)) ?_
    refine zab rfl rfl rfl (op_ldo rfl tb3 (ev1 rfl) rfl rfl) ?_
    refine zab rfl rfl rfl (op_leq rfl (ev1 rfl) (ev1 rfl)) ?_
    refine zaf ?_
    refine dwp_cond rfl (fun c2 => ?_) (fun c2 => ?_)
    · try simp only [yg, ya, beq_iff_eq, bne_iff_ne, yb, yc, yf, ye, yh, yi, yd, ne_eq, yj, Int.not_lt, Int.not_le] at c2
      refine dwp_skip ?_
      refine zae ?_
      refine dwp_block ?_
      refine zae ?_
      refine zae ?_
      have hxw : x < w := by omega
      have hyh : y < h := by omega
      have hend := rowK_end (X := X) (Y := Y) (y := y) hxw pts
      refine dwp_draw [([], []), ([], []), ([], []), ([2], []), ([], []), ([0], []), ([0], []), ([], []), ([], []), ([2], []), ([], []), ([1], []), ([1], []), ([], [])] mixed (by kernel_rfl) ?_
      refine lex_r rfl rfl (zac (.inl rfl) (ev1 rfl)) ?_
      refine lex_r rfl rfl (zac (.inl rfl) (ev1 rfl)) ?_
      refine lex_r rfl rfl (op_fa rfl fo53_1 (ev1 rfl)) ?_
      refine lex_r rfl rfl (op_ldo rfl tb3 (ev1 rfl) rfl rfl) ?_
      refine lex_r rfl rfl (op_sub' rfl (ev1 rfl) (ev1 rfl) (fun _ => IntWalk.i64_in _ (by omega))) ?_
      refine lex_r rfl rfl (op_ixx (y) rfl sl78 (ev1 rfl) (ev1 rfl) rfl (fun _ => by omega) (fun _ => by omega)) ?_
      refine lex_r rfl rfl (op_ldx rfl tb80 (ev1 rfl) rfl (names_rng hyh)) ?_
      refine lex_r rfl rfl (zac (.inl rfl) (ev1 rfl)) ?_
      refine lex_r rfl rfl (op_fa rfl fo53_0 (ev1 rfl)) ?_
      refine lex_r rfl rfl (op_ldo rfl tb3 (ev1 rfl) rfl rfl) ?_
      refine lex_r rfl rfl (op_sub' rfl (ev1 rfl) (ev1 rfl) (fun _ => IntWalk.i64_in _ (by omega))) ?_
      refine lex_r rfl rfl (op_ixf (x) rfl sl80 (ev1 rfl) (ev1 rfl) rfl (fmF_at hyh) (fun _ => by omega) (fun _ => by omega)) ?_
      refine lex_r rfl rfl (op_ldfe rfl tb4 (ev1 rfl) rfl (fmF_at hyh) (fun _ => rfl) ((by rw [rowN_len]; exact hxw)) rfl) ?_
      refine lex_r rfl rfl (op_not rfl (ev1 rfl)) ?_
      refine lex_nil ?_
      refine dwp_cond rfl (fun c3 => ?_) (fun c3 => ?_)
      · rw [rowN_get] at c3
        have hin : inF pts (⟨X + (x : Int), Y + (y : Int)⟩ : P2) = false := by unfold inF; simpa using c3
        refine zae ?_
        refine zad ?_
        refine zab rfl rfl rfl (zac (.inr rfl) (ev1 rfl)) ?_
        refine zaf ?_
        refine dwp_exit ?_
        refine zad ?_
        refine zab rfl rfl rfl (zac (.inl rfl) (ev1 rfl)) ?_
        refine zab rfl rfl rfl (op_add' rfl (ev1 rfl) (ev1 rfl) (fun _ => IntWalk.i64_in _ (by omega))) ?_
        refine zab rfl rfl rfl (zac (.inr rfl) (ev1 rfl)) ?_
        refine zaf ?_
        refine ⟨x + 1, [0, 1, 2, 3], by omega, by simp only []; omega, rfl, ⟨congrArg (fun z => some (D.val (.bool z))) (by rw [rowK_no hxw hin]; exact (opn_no (q := ⟨X + ((x + 1 : Nat) : Int), Y + (y : Int)⟩) hend rfl (show X + ((x + 1 : Nat) : Int) = X + (x : Int) + 1 by omega)).symm), congrArg (fun z => some (D.val (.int .i64 z))) (by first | rfl | omega), rfl, rfl, rfl, rfl, trivial⟩, ⟨arxg_fits (by first | rfl | omega) rfl (fun _ => rfl), rfl, rfl, (by rw [rowK_no hxw hin]; rfl), trivial⟩⟩
      · rw [rowN_get] at c3
        have hin : inF pts (⟨X + (x : Int), Y + (y : Int)⟩ : P2) = true := by unfold inF; simpa using c3
        refine dwp_skip ?_
        refine zae ?_
        refine zae ?_
        refine zad ?_
        refine zab rfl rfl rfl (zac (.inl rfl) (ev1 rfl)) ?_
        refine zab rfl rfl rfl (op_not rfl (ev1 rfl)) ?_
        refine zaf ?_
        refine dwp_cond rfl (fun c4 => ?_) (fun c4 => ?_)
        · have hop : opnS (rowK X Y w pts (y * w + x)) (⟨X + (x : Int), Y + (y : Int)⟩ : P2) = false := by simpa using c4
          have hL1 : ((rowK X Y w pts (y * w + x)) ++ [pt1 (⟨X + (x : Int), Y + (y : Int)⟩ : P2)]).length = (rowK X Y w pts (y * w + x)).length + 1 := by simp
          refine dwp_holes 1 (by simp only [holes, List.cons_append, List.nil_append]; exact rfl) ?_
          refine zad ?_
          refine zab rfl rfl rfl (zac (.inl rfl) (ev1 rfl)) ?_
          refine zab rfl rfl rfl (zac (.inl rfl) (ev1 rfl)) ?_
          refine zab rfl rfl rfl (zac (.inl rfl) (ev1 rfl)) ?_
          refine zab rfl rfl rfl (zac (.inl rfl) (ev1 rfl)) ?_
          refine zab rfl rfl rfl (op_build (ps := [(0, .tmp 42), (1, .tmp 43), (2, .tmp 44)]) rfl fl40 zr40 (vc (ev1 rfl) (vc (ev1 rfl) (vc (ev1 rfl) vn))) rfl rfl) ?_
          refine zab rfl rfl rfl (op_bs (ps := [(0, .tmp 45)]) rfl sl32 zr40 rfl (vc (ev1 rfl) vn) rfl (by decide) (by decide)) ?_
          refine walk_w rfl rfl rfl (op_app (j := 4) rfl sl32 zr40 rfl (ev1 rfl) (ev1 rfl) src_slf rfl rfl (fun _ => rfl) (fun _ => ⟨by omega, by omega⟩)) (by simp only [upd, zaa, za]; exact rfl) ?_
          refine zab rfl rfl rfl (zac (.inr rfl) (ev1 rfl)) ?_
          refine zaf ?_
          refine zae ?_
          refine dwp_reb 4 (reb_eq (k' := .arr 40 3 ((rowK X Y w pts (y * w + x)) ++ [pt1 (⟨X + (x : Int), Y + (y : Int)⟩ : P2)]).length (((rowK X Y w pts (y * w + x)) ++ [pt1 (⟨X + (x : Int), Y + (y : Int)⟩ : P2)]).flatMap s3)) (by rw [List.length_append, List.flatMap_append]; rfl)) rfl rfl (by simp only [List.cons_append, List.nil_append, zaa, za, List.map]; exact rfl) ?_
          refine zad ?_
          refine zab rfl rfl rfl (zac (.inl rfl) (ev1 rfl)) ?_
          refine zab rfl rfl rfl (zac (.inl rfl) (ev1 rfl)) ?_
          refine zab rfl rfl rfl (op_lena rfl sl32 (ev1 rfl) rfl) ?_
          refine zab rfl rfl rfl (op_sub' rfl (ev1 rfl) (ev1 rfl) (fun _ => IntWalk.i64_in _ (by omega))) ?_
          refine zab rfl rfl rfl (zac (.inl rfl) (ev1 rfl)) ?_
          refine zab rfl rfl rfl (op_ixar (j := ((rowK X Y w pts (y * w + x)) ++ [pt1 (⟨X + (x : Int), Y + (y : Int)⟩ : P2)]).length - 1) rfl sl32 (ev1 rfl) (ev1 rfl) rfl (fun _ => by omega) (fun _ => by omega)) ?_
          refine zab rfl rfl rfl (op_faa rfl fo40_2 (ev1 rfl)) ?_
          refine walk_s rfl rfl (op_staf (j := ((rowK X Y w pts (y * w + x)) ++ [pt1 (⟨X + (x : Int), Y + (y : Int)⟩ : P2)]).length - 1) (c := 2) (zSp) (⟨(lastS ((rowK X Y w pts (y * w + x)) ++ [pt1 (⟨X + (x : Int), Y + (y : Int)⟩ : P2)])).y, (lastS ((rowK X Y w pts (y * w + x)) ++ [pt1 (⟨X + (x : Int), Y + (y : Int)⟩ : P2)])).f, X + (x : Int)⟩) rfl tb3 (ev1 rfl) (ev1 rfl) rfl rfl rfl rfl (fun _ => rfl) (fun _ => by omega) (Nat.le_of_ble_eq_true rfl) rfl) (by simp only [upd, zaa, za]; exact rfl) ?_
          refine zaf ?_
          refine zad ?_
          refine zab rfl rfl rfl (zac (.inr rfl) (ev1 rfl)) ?_
          refine zaf ?_
          refine zad ?_
          refine zab rfl rfl rfl (zac (.inl rfl) (ev1 rfl)) ?_
          refine zab rfl rfl rfl (op_add' rfl (ev1 rfl) (ev1 rfl) (fun _ => IntWalk.i64_in _ (by omega))) ?_
          refine zab rfl rfl rfl (zac (.inr rfl) (ev1 rfl)) ?_
          refine zaf ?_
          refine ⟨x + 1, [0, 1, 2, 4], by omega, by simp only []; omega, rfl, ⟨congrArg (fun z => some (D.val (.bool z))) (by rw [rowK_yes hxw hin]; exact (opn_merge (q := ⟨X + ((x + 1 : Nat) : Int), Y + (y : Int)⟩) hend rfl (show X + ((x + 1 : Nat) : Int) = X + (x : Int) + 1 by omega)).symm), congrArg (fun z => some (D.val (.int .i64 z))) (by first | rfl | omega), rfl, rfl, rfl, rfl, trivial⟩, ⟨arxg_fits (by first | rfl | omega) rfl (fun _ => rfl), rfl, rfl, (by rw [rowK_yes hxw hin, ← row_set1 hend hop, List.length_set]; rfl), trivial⟩⟩
        · have hop : opnS (rowK X Y w pts (y * w + x)) (⟨X + (x : Int), Y + (y : Int)⟩ : P2) = true := by simpa using c4
          have hpos : 0 < (rowK X Y w pts (y * w + x)).length := by obtain ⟨l, a, e, _⟩ := opn_last hop; rw [e]; simp
          refine dwp_skip ?_
          refine zae ?_
          refine zad ?_
          refine zab rfl rfl rfl (zac (.inl rfl) (ev1 rfl)) ?_
          refine zab rfl rfl rfl (zac (.inl rfl) (ev1 rfl)) ?_
          refine zab rfl rfl rfl (op_lena rfl sl32 (ev1 rfl) rfl) ?_
          refine zab rfl rfl rfl (op_sub' rfl (ev1 rfl) (ev1 rfl) (fun _ => IntWalk.i64_in _ (by omega))) ?_
          refine zab rfl rfl rfl (zac (.inl rfl) (ev1 rfl)) ?_
          refine zab rfl rfl rfl (op_ixar (j := (rowK X Y w pts (y * w + x)).length - 1) rfl sl32 (ev1 rfl) (ev1 rfl) rfl (fun _ => by first | rfl | omega) (fun _ => by omega)) ?_
          refine zab rfl rfl rfl (op_faa rfl fo40_2 (ev1 rfl)) ?_
          refine walk_s rfl rfl (op_staf (j := (rowK X Y w pts (y * w + x)).length - 1) (c := 2) (zSp) (⟨(lastS (rowK X Y w pts (y * w + x))).y, (lastS (rowK X Y w pts (y * w + x))).f, X + (x : Int)⟩) rfl tb3 (ev1 rfl) (ev1 rfl) rfl rfl rfl rfl (fun _ => rfl) (fun _ => by omega) (Nat.le_of_ble_eq_true rfl) rfl) (by simp only [upd, zaa, za]; exact rfl) ?_
          refine zaf ?_
          refine zad ?_
          refine zab rfl rfl rfl (zac (.inr rfl) (ev1 rfl)) ?_
          refine zaf ?_
          refine zad ?_
          refine zab rfl rfl rfl (zac (.inl rfl) (ev1 rfl)) ?_
          refine zab rfl rfl rfl (op_add' rfl (ev1 rfl) (ev1 rfl) (fun _ => IntWalk.i64_in _ (by omega))) ?_
          refine zab rfl rfl rfl (zac (.inr rfl) (ev1 rfl)) ?_
          refine zaf ?_
          refine ⟨x + 1, [0, 1, 2, 3], by omega, by simp only []; omega, rfl, ⟨congrArg (fun z => some (D.val (.bool z))) (by rw [rowK_yes hxw hin]; exact (opn_merge (q := ⟨X + ((x + 1 : Nat) : Int), Y + (y : Int)⟩) hend rfl (show X + ((x + 1 : Nat) : Int) = X + (x : Int) + 1 by omega)).symm), congrArg (fun z => some (D.val (.int .i64 z))) (by first | rfl | omega), rfl, rfl, rfl, rfl, trivial⟩, ⟨arxg_fits (by first | rfl | omega) rfl (fun _ => rfl), rfl, rfl, (by rw [rowK_yes hxw hin, ← row_set2 hop, List.length_set]; rfl), trivial⟩⟩
    · try simp only [yg, ya, beq_iff_eq, bne_iff_ne, yb, yc, yf, ye, yh, yi, yd, ne_eq, yj, Int.not_lt, Int.not_le] at c2
      refine dwp_exit ?_
      refine zad ?_
      refine zab rfl rfl rfl (zac (.inl rfl) (ev1 rfl)) ?_
      refine zab rfl rfl rfl (op_add' rfl (ev1 rfl) (ev1 rfl) (fun _ => IntWalk.i64_in _ (by omega))) ?_
      refine zab rfl rfl rfl (zac (.inr rfl) (ev1 rfl)) ?_
      refine zaf ?_
      obtain rfl : x = w := by omega
      refine ⟨y + 1, [0, 1, 2, 3], by omega, by simp only []; omega, rfl, ⟨congrArg (fun z => some (D.val (.int .i64 z))) (by first | rfl | omega), rfl, rfl, rfl, trivial⟩, ⟨arxg_fits (by first | rfl | omega) rfl (fun _ => rfl), rfl, rfl, (by rw [Nat.succ_mul]; rfl), trivial⟩⟩
  · try simp only [yg, ya, beq_iff_eq, bne_iff_ne, yb, yc, yf, ye, yh, yi, yd, ne_eq, yj, Int.not_lt, Int.not_le] at c1
    refine dwp_exit ?_
    refine zae ?_
    refine zad ?_
    refine zab rfl rfl rfl (zac (.inl rfl) (ev1 rfl)) ?_
    refine zab rfl rfl rfl (zac (.inr rfl) (ev1 rfl)) ?_
    refine zaf ?_
    refine dwp_ret ?_
    obtain rfl : y = h := by omega
    refine kend [0, 1, 3] (rs1 rfl (rv_t rfl)) rfl rfl ?_ ⟨?_, ?_, ?_, trivial⟩
    rfl
    all_goals first | exact rfl | exact arxg_fits (by first | rfl | omega) rfl (fun _ => rfl)
set_option maxRecDepth 4000
def rhasB (l : List Sp) (p : P2) : Bool := l.any fun s => hitB s p
theorem rhasB_iff {l : List Sp} {p : P2} : rhasB l p = true ↔ hasS l p.x p.y := by
  unfold rhasB hasS
  rw [List.any_eq_true]
  exact ⟨fun ⟨s, h, g⟩ => ⟨s, h, hitB_iff.1 g⟩, fun ⟨s, h, g⟩ => ⟨s, h, hitB_iff.2 g⟩⟩
set_option maxRecDepth 4000 in
set_option maxHeartbeats 1000000 in
theorem rreach_d (n : Int) : DFun Try.prog 51 [.val (.int .i64 n)] [] (.val (.bool (rchB n))) [] := by
  refine dcalls_go (N := 9) 0 (by kernel_rfl) Try.func51 rfl rfl rfl (by simp only [fr0, Nat.zero_add, Nat.reduceAdd]; exact rfl) rfl fun s0 hs0 => ?_
  refine zae ?_
  refine zad ?_
  refine zab rfl rfl rfl (zac (.inr rfl) (ev1 rfl)) ?_
  refine zaf ?_
  refine zae ?_
  refine zad ?_
  refine zab rfl rfl rfl (zac (.inl rfl) (ev1 rfl)) ?_
  refine zab rfl rfl rfl (op_geq rfl (ev1 rfl) (ev1 rfl)) ?_
  refine zab rfl rfl rfl (zac (.inl rfl) (ev1 rfl)) ?_
  refine walk_gr (gd_t rfl rfl rfl) rfl rfl rfl (zac (.inl rfl) (ev1 rfl)) ?_
  refine walk_gr (gd_t rfl rfl rfl) rfl rfl rfl (op_leq rfl (ev2 rfl) (ev1 rfl)) ?_
  refine zab rfl rfl rfl (op_and rfl (ev1 rfl) (ev3 rfl id)) ?_
  refine zab rfl rfl rfl (zac (.inr rfl) (ev1 rfl)) ?_
  refine zaf ?_
  refine dwp_ret ?_
  refine kend0 (rs1 rfl (rv_t rfl)) rfl ?_
  rfl
set_option maxRecDepth 4000 in
set_option maxHeartbeats 1000000 in
theorem rhas_d (l : List Sp) (p : P2) : DFun Try.prog 31 [.slf 3 (l).length ((l).flatMap s3), .val (.agg #[.int .i64 p.x, .int .i64 p.y])] [] (.val (.bool (rhasB l p))) [] := by
  refine dcalls_go (N := 33) 0 (by kernel_rfl) Try.func31 rfl rfl rfl (by simp only [fr0, Nat.zero_add, Nat.reduceAdd]; exact rfl) rfl fun s0 hs0 => ?_
  refine dwp_len (t := 0) rfl fun hl0 hL0 => ?_
  refine zae ?_
  refine dwp_holes 1 (by simp only [holes, List.cons_append, List.nil_append]; exact rfl) ?_
  refine zad ?_
  refine walk_w rfl rfl rfl (op_boxa 0 rfl (ev1 rfl) rfl) (by simp only [upd, zaa, za]; exact rfl) ?_
  refine zab rfl rfl rfl (zac (.inr rfl) (ev1 rfl)) ?_
  refine zaf ?_
  refine zae ?_
  refine zae ?_
  refine zad ?_
  refine zab rfl rfl rfl (zac (.inl rfl) (ev1 rfl)) ?_
  refine zab rfl rfl rfl (op_len rfl sl32 (ev1 rfl)) ?_
  refine zab rfl rfl rfl (zac (.inl rfl) (ev1 rfl)) ?_
  refine zaf ?_
  refine dwp_block ?_
  refine dwp_loopS ⟨hs0, rfl⟩ (α := Nat) (fun i => [(9, .val (.int .i64 (i : Int)))]) [(3, _), (7, _), (8, _)] (fun i => []) [_] (fun i => i ≤ l.length ∧ (l.take i).any (fun s => hitB s p) = false) (fun i => l.length - i) 0 [0] (⟨Nat.zero_le _, rfl⟩) rfl ⟨rfl, rfl, rfl, trivial⟩ ⟨rfl, trivial⟩ ⟨rfl, trivial⟩ ?_
  intro i hx
  simp only [upd, zaa, za, List.cons_append, List.nil_append]
  obtain ⟨hi0, hno⟩ := hx
  refine zae ?_
  refine zad ?_
  refine zab rfl rfl rfl (op_lss rfl (ev1 rfl) (ev1 rfl)) ?_
  refine zaf ?_
  refine zae ?_
  refine dwp_cond rfl (fun c1 => ?_) (fun c1 => ?_)
  · try simp only [yg, ya, beq_iff_eq, bne_iff_ne, yb, yc, yf, ye, yh, yi, yd, ne_eq, yj, Int.not_lt, Int.not_le] at c1
    refine dwp_skip ?_
    refine zae ?_
    refine dwp_block ?_
    refine zae ?_
    have hi : i < l.length := by omega
    refine dwp_holes 1 (by simp only [holes, List.cons_append, List.nil_append]; exact rfl) ?_
    refine zad ?_
    refine zab rfl rfl rfl (op_ixsr (j := i) rfl sl32 (ev1 rfl) (ev1 rfl) (fun _ => rfl) (by decide) (by omega) (by omega)) ?_
    refine zab rfl rfl rfl (op_ldwd rfl tb40 (ev1 rfl) rfl) ?_
    refine walk_w rfl rfl rfl (op_alloc 1 rfl zr40 rfl) (by simp only [upd, zaa, za]; exact rfl) ?_
    refine walk_s rfl rfl (op_stwa rfl tb40 (ev1 rfl) (ev1 rfl) rfl rfl rfl rfl) (by simp only [upd, zaa, za]; exact rfl) ?_
    refine zaf ?_
    refine zae ?_
    refine zad ?_
    refine zab rfl rfl rfl (op_fa rfl fo40_0 (ev1 rfl)) ?_
    refine zab rfl rfl rfl (op_ldo rfl tb3 (ev1 rfl) rfl rfl) ?_
    refine zab rfl rfl rfl (op_fa rfl fo25_1 (ev1 rfl)) ?_
    refine zab rfl rfl rfl (op_ldo rfl tb3 (ev1 rfl) rfl rfl) ?_
    refine zab rfl rfl rfl (op_eql rfl (ev1 rfl) (ev1 rfl)) ?_
    refine zab rfl rfl rfl (zac (.inl rfl) (ev1 rfl)) ?_
    refine walk_gr (gd_t rfl rfl rfl) rfl rfl rfl (op_fa rfl fo40_1 (ev1 rfl)) ?_
    refine walk_gr (gd_t rfl rfl rfl) rfl rfl rfl (op_ldo rfl tb3 (ev2 rfl) rfl rfl) ?_
    refine walk_gr (gd_t rfl rfl rfl) rfl rfl rfl (op_fa rfl fo25_0 (ev1 rfl)) ?_
    refine walk_gr (gd_t rfl rfl rfl) rfl rfl rfl (op_ldo rfl tb3 (ev2 rfl) rfl rfl) ?_
    refine walk_gr (gd_t rfl rfl rfl) rfl rfl rfl (op_leq rfl (ev2 rfl) (ev2 rfl)) ?_
    refine zab rfl rfl rfl (op_and rfl (ev1 rfl) (ev3 rfl id)) ?_
    refine zab rfl rfl rfl (zac (.inl rfl) (ev1 rfl)) ?_
    refine walk_gr (gd_t rfl rfl rfl) rfl rfl rfl (op_fa rfl fo25_0 (ev1 rfl)) ?_
    refine walk_gr (gd_t rfl rfl rfl) rfl rfl rfl (op_ldo rfl tb3 (ev2 rfl) rfl rfl) ?_
    refine walk_gr (gd_t rfl rfl rfl) rfl rfl rfl (op_fa rfl fo40_2 (ev1 rfl)) ?_
    refine walk_gr (gd_t rfl rfl rfl) rfl rfl rfl (op_ldo rfl tb3 (ev2 rfl) rfl rfl) ?_
    refine walk_gr (gd_t rfl rfl rfl) rfl rfl rfl (op_leq rfl (ev2 rfl) (ev2 rfl)) ?_
    refine zab rfl rfl rfl (op_and rfl (ev1 rfl) (ev3 rfl id)) ?_
    refine zaf ?_
    refine dwp_cond rfl (fun c2 => ?_) (fun c2 => ?_)
    · have hh : hitB l[i] p = true := by rw [← c2]; unfold hitB; simp [Bool.and_assoc]; rfl
      refine zae ?_
      refine zad ?_
      refine zab rfl rfl rfl (zac (.inr rfl) (ev1 rfl)) ?_
      refine zaf ?_
      refine dwp_ret ?_
      refine kend0 (rs1 rfl (rv_t rfl)) rfl ?_
      rw [show rhasB l p = true from List.any_eq_true.2 ⟨_, List.getElem_mem hi, hh⟩]
    · have hh : hitB l[i] p = false := by rw [← c2]; unfold hitB; simp [Bool.and_assoc]; rfl
      refine dwp_skip ?_
      refine zad ?_
      refine zab rfl rfl rfl (op_add' rfl (ev1 rfl) (ev1 rfl) (fun _ => IntWalk.i64_in _ (by omega))) ?_
      refine zab rfl rfl rfl (zac (.inl rfl) (ev1 rfl)) ?_
      refine zaf ?_
      refine ⟨i + 1, [0], ⟨by omega, any_add hi hno hh⟩, by simp only []; omega, rfl, ⟨rfl, rfl, rfl, rfl, trivial⟩, ⟨rfl, trivial⟩⟩
  · try simp only [yg, ya, beq_iff_eq, bne_iff_ne, yb, yc, yf, ye, yh, yi, yd, ne_eq, yj, Int.not_lt, Int.not_le] at c1
    refine dwp_exit ?_
    refine zae ?_
    refine zad ?_
    refine zab rfl rfl rfl (zac (.inr rfl) (ev1 rfl)) ?_
    refine zaf ?_
    refine dwp_ret ?_
    rw [take_all (by omega)] at hno
    refine kend0 (rs1 rfl (rv_t rfl)) rfl ?_
    rw [show rhasB l p = false from hno]
set_option maxRecDepth 4000 in
set_option maxHeartbeats 1000000 in
theorem rright_d (l : List Sp) : DFun Try.prog 26 [.slf 3 (l).length ((l).flatMap s3)] [] (.val (.bool (decide (chkS l)))) [] := by
  refine dcalls_go (N := 72) 0 (by kernel_rfl) Try.func26 rfl rfl rfl (by simp only [fr0, Nat.zero_add, Nat.reduceAdd]; exact rfl) rfl fun s0 hs0 => ?_
  refine dwp_len (t := 0) rfl fun hl0 hL0 => ?_
  refine zae ?_
  refine zad ?_
  refine zab rfl rfl rfl (zac (.inr rfl) (ev1 rfl)) ?_
  refine zaf ?_
  refine zae ?_
  refine zae ?_
  refine zad ?_
  refine zab rfl rfl rfl (zac (.inl rfl) (ev1 rfl)) ?_
  refine zab rfl rfl rfl (op_len rfl sl32 (ev1 rfl)) ?_
  refine zab rfl rfl rfl (zac (.inl rfl) (ev1 rfl)) ?_
  refine zaf ?_
  refine dwp_block ?_
  refine dwp_loopS ⟨hs0, rfl⟩ (α := Nat) (fun i => [(7, .val (.int .i64 (i : Int)))]) [(0, _), (5, _), (6, _)] (fun i => []) [] (fun i => i ≤ l.length ∧ chkS (l.take i)) (fun i => l.length - i) 0 [] (⟨Nat.zero_le _, chkS_nil⟩) rfl ⟨rfl, rfl, rfl, trivial⟩ ⟨rfl, trivial⟩ trivial ?_
  intro i hx
  simp only [upd, zaa, za, List.cons_append, List.nil_append]
  obtain ⟨hi0, hok⟩ := hx
  refine zae ?_
  refine zad ?_
  refine zab rfl rfl rfl (op_lss rfl (ev1 rfl) (ev1 rfl)) ?_
  refine zaf ?_
  refine zae ?_
  refine dwp_cond rfl (fun c1 => ?_) (fun c1 => ?_)
  · try simp only [yg, ya, beq_iff_eq, bne_iff_ne, yb, yc, yf, ye, yh, yi, yd, ne_eq, yj, Int.not_lt, Int.not_le] at c1
    refine dwp_skip ?_
    refine zae ?_
    refine dwp_block ?_
    refine zae ?_
    have hi : i < l.length := by omega
    refine dwp_holes 1 (by simp only [holes, List.cons_append, List.nil_append]; exact rfl) ?_
    refine zad ?_
    refine zab rfl rfl rfl (zac (.inl rfl) (ev1 rfl)) ?_
    refine zab rfl rfl rfl (op_ixsr (j := i) rfl sl32 (ev1 rfl) (ev1 rfl) (fun _ => rfl) (by decide) (by omega) (by omega)) ?_
    refine zab rfl rfl rfl (op_ldwd rfl tb40 (ev1 rfl) rfl) ?_
    refine walk_w rfl rfl rfl (op_alloc 0 rfl zr40 rfl) (by simp only [upd, zaa, za]; exact rfl) ?_
    refine zab rfl rfl rfl (zac (.inr rfl) (ev1 rfl)) ?_
    refine walk_s rfl rfl (op_stwa rfl tb40 (ev1 rfl) (ev1 rfl) rfl rfl rfl rfl) (by simp only [upd, zaa, za]; exact rfl) ?_
    refine zaf ?_
    refine zae ?_
    refine zae ?_
    have hri := rchS_iff l[i]
    refine zad ?_
    refine zab rfl rfl rfl (op_fa rfl fo40_0 (ev1 rfl)) ?_
    refine zab rfl rfl rfl (op_ldo rfl tb3 (ev1 rfl) rfl rfl) ?_
    refine zab rfl rfl rfl (dop_call [] [] [] rfl (ev1 rfl) (ec (ev1 rfl) en) rfl rfl (rreach_d _) rfl rfl rfl rfl rfl rfl) ?_
    refine zab rfl rfl rfl (op_not rfl (ev1 rfl)) ?_
    refine zab rfl rfl rfl (zac (.inl rfl) (ev1 rfl)) ?_
    refine walk_gr (gd_f rfl rfl rfl) rfl rfl rfl (op_fa rfl fo40_1 (ev1 rfl)) ?_
    refine walk_gr (gd_f rfl rfl rfl) rfl rfl rfl (op_ldo rfl tb3 (ev2 rfl) rfl rfl) ?_
    refine walk_gr (gd_f rfl rfl rfl) rfl rfl rfl (dop_call [] [] [] rfl (ev1 rfl) (ec (ev2 rfl) en) rfl rfl (rreach_d _) rfl rfl rfl rfl rfl rfl) ?_
    refine walk_gr (gd_f rfl rfl rfl) rfl rfl rfl (op_not rfl (ev2 rfl)) ?_
    refine zab rfl rfl rfl (op_or rfl (ev1 rfl) (ev3 rfl id)) ?_
    refine zab rfl rfl rfl (zac (.inl rfl) (ev1 rfl)) ?_
    refine walk_gr (gd_f rfl rfl rfl) rfl rfl rfl (op_fa rfl fo40_2 (ev1 rfl)) ?_
    refine walk_gr (gd_f rfl rfl rfl) rfl rfl rfl (op_ldo rfl tb3 (ev2 rfl) rfl rfl) ?_
    refine walk_gr (gd_f rfl rfl rfl) rfl rfl rfl (dop_call [] [] [] rfl (ev1 rfl) (ec (ev2 rfl) en) rfl rfl (rreach_d _) rfl rfl rfl rfl rfl rfl) ?_
    refine walk_gr (gd_f rfl rfl rfl) rfl rfl rfl (op_not rfl (ev2 rfl)) ?_
    refine zab rfl rfl rfl (op_or rfl (ev1 rfl) (ev3 rfl id)) ?_
    refine zab rfl rfl rfl (zac (.inl rfl) (ev1 rfl)) ?_
    refine walk_gr (gd_f rfl rfl rfl) rfl rfl rfl (op_fa rfl fo40_1 (ev1 rfl)) ?_
    refine walk_gr (gd_f rfl rfl rfl) rfl rfl rfl (op_ldo rfl tb3 (ev2 rfl) rfl rfl) ?_
    refine walk_gr (gd_f rfl rfl rfl) rfl rfl rfl (op_fa rfl fo40_2 (ev1 rfl)) ?_
    refine walk_gr (gd_f rfl rfl rfl) rfl rfl rfl (op_ldo rfl tb3 (ev2 rfl) rfl rfl) ?_
    refine walk_gr (gd_f rfl rfl rfl) rfl rfl rfl (op_gtr rfl (ev2 rfl) (ev2 rfl)) ?_
    refine zab rfl rfl rfl (op_or rfl (ev1 rfl) (ev3 rfl id)) ?_
    refine zaf ?_
    refine dwp_cond rfl (fun c2 => ?_) (fun c2 => ?_)
    · have hv : ¬ (rchS l[i] ∧ l[i].f ≤ l[i].t) := by
        intro hv
        obtain ⟨g1, g2, g3, g4⟩ := hri.1 hv
        rw [g1, g2, g3] at c2
        simp at c2
        omega
      refine zae ?_
      refine zad ?_
      refine zab rfl rfl rfl (zac (.inr rfl) (ev1 rfl)) ?_
      refine zaf ?_
      refine dwp_ret ?_
      refine kend0 (rs1 rfl (rv_t rfl)) rfl ?_
      rw [decide_eq_false (chkS_not1 hi hv)]
    · have hv : rchS l[i] ∧ l[i].f ≤ l[i].t := hri.2 (by revert c2; cases rchB l[i].y <;> cases rchB l[i].f <;> cases rchB l[i].t <;> simp)
      refine dwp_skip ?_
      refine zae ?_
      by_cases h0 : 0 < i
      · have hj : i - 1 < l.length := by omega
        have hvj := hok.1 l[i - 1] (List.mem_take_iff_getElem.2 ⟨i - 1, by omega, rfl⟩)
        have hbj := rch_bd hvj.1
        unfold bdS at hbj
        refine dwp_draw [([], []), ([], []), ([], []), ([], []), ([], []), ([], []), ([], []), ([], []), ([], []), ([], []), ([0], []), ([], []), ([], []), ([], []), ([], []), ([], []), ([], []), ([], []), ([], []), ([], []), ([0], []), ([], []), ([], []), ([], []), ([], []), ([], []), ([], []), ([], []), ([], []), ([], []), ([], []), ([0], []), ([], []), ([], []), ([], []), ([], [])] mixed (by kernel_rfl) ?_
        refine lex_r rfl rfl (zac (.inl rfl) (ev1 rfl)) ?_
        refine lex_r rfl rfl ((op_gtr rfl (ev1 rfl) (ev1 rfl)).cast (d' := .val (.bool true)) (by rw [D.val.injEq, Value.bool.injEq, decide_eq_true_eq]; omega)) ?_
        refine lex_r rfl rfl (zac (.inl rfl) (ev1 rfl)) ?_
        refine lex_k (gd_t (b := true) rfl rfl rfl) rfl rfl (zac (.inl rfl) (ev1 rfl)) rfl (by simp only [upd, zaa, za]; exact rfl) ?_
        refine lex_k (gd_t (b := true) rfl rfl rfl) rfl rfl (zac (.inl rfl) (ev1 rfl)) rfl (by simp only [upd, zaa, za]; exact rfl) ?_
        refine lex_k (gd_t (b := true) rfl rfl rfl) rfl rfl (op_sub' rfl (ev2 rfl) (ev1 rfl) (fun _ => IntWalk.i64_in _ (by omega))) rfl (by simp only [upd, zaa, za]; exact rfl) ?_
        refine lex_k (gd_t (b := true) rfl rfl rfl) rfl rfl (op_ixsr (j := i - 1) rfl sl32 (ev2 rfl) (ev2 rfl) (fun _ => rfl) (by decide) (by omega) (by omega)) rfl (by simp only [upd, zaa, za]; exact rfl) ?_
        refine lex_k (gd_t (b := true) rfl rfl rfl) rfl rfl (op_fad rfl fo40_0 (ev2 rfl)) rfl (by simp only [upd, zaa, za]; exact rfl) ?_
        refine lex_k (gd_t (b := true) rfl rfl rfl) rfl rfl (op_ldod rfl tb3 (ev2 rfl) rfl) rfl (by simp only [upd, zaa, za]; exact rfl) ?_
        refine lex_k (gd_t (b := true) rfl rfl rfl) rfl rfl (op_fa rfl fo40_0 (ev1 rfl)) rfl (by simp only [upd, zaa, za]; exact rfl) ?_
        refine lex_k (gd_t (b := true) rfl rfl rfl) rfl rfl (op_ldo rfl tb3 (ev2 rfl) rfl rfl) rfl (by simp only [upd, zaa, za]; exact rfl) ?_
        refine lex_k (gd_t (b := true) rfl rfl rfl) rfl rfl (op_gtr rfl (ev2 rfl) (ev2 rfl)) rfl (by simp only [upd, zaa, za]; exact rfl) ?_
        refine lex_k (gd_t (b := true) rfl rfl rfl) rfl rfl (zac (.inl rfl) (ev2 rfl)) rfl (by simp only [upd, zaa, za]; exact rfl) ?_
        refine lex_gr (gd_ff rfl rfl rfl) rfl rfl (zac (.inl rfl) (ev1 rfl)) ?_
        refine lex_gr (gd_ff rfl rfl rfl) rfl rfl (zac (.inl rfl) (ev1 rfl)) ?_
        refine lex_gr (gd_ff rfl rfl rfl) rfl rfl (op_sub' rfl (ev2 rfl) (ev1 rfl) (fun hp => IntWalk.i64_in _ (by first | omega | (simp at hp; omega)))) ?_
        refine lex_gr (gd_ff rfl rfl rfl) rfl rfl (op_ixsr (j := i - 1) rfl sl32 (ev2 rfl) (ev2 rfl) (fun _ => rfl) (by decide) (by omega) (by omega)) ?_
        refine lex_gr (gd_ff rfl rfl rfl) rfl rfl (op_fad rfl fo40_0 (ev2 rfl)) ?_
        refine lex_gr (gd_ff rfl rfl rfl) rfl rfl (op_ldod rfl tb3 (ev2 rfl) rfl) ?_
        refine lex_gr (gd_ff rfl rfl rfl) rfl rfl (op_fa rfl fo40_0 (ev1 rfl)) ?_
        refine lex_gr (gd_ff rfl rfl rfl) rfl rfl (op_ldo rfl tb3 (ev2 rfl) rfl rfl) ?_
        refine lex_gr (gd_ff rfl rfl rfl) rfl rfl (op_eql rfl (ev2 rfl) (ev2 rfl)) ?_
        refine lex_gr (gd_ff rfl rfl rfl) rfl rfl (zac (.inl rfl) (ev2 rfl)) ?_
        refine lex_gr (gd_tt rfl rfl rfl) rfl rfl (zac (.inl rfl) (ev1 rfl)) ?_
        refine lex_gr (gd_tt rfl rfl rfl) rfl rfl (zac (.inl rfl) (ev1 rfl)) ?_
        refine lex_gr (gd_tt rfl rfl rfl) rfl rfl (op_sub' rfl (ev2 rfl) (ev1 rfl) (fun hp => IntWalk.i64_in _ (by first | omega | (simp at hp; omega)))) ?_
        refine lex_gr (gd_tt rfl rfl rfl) rfl rfl (op_ixsr (j := i - 1) rfl sl32 (ev2 rfl) (ev2 rfl) (fun _ => rfl) (by decide) (by omega) (by omega)) ?_
        refine lex_gr (gd_tt rfl rfl rfl) rfl rfl (op_fad rfl fo40_2 (ev2 rfl)) ?_
        refine lex_gr (gd_tt rfl rfl rfl) rfl rfl (op_ldod rfl tb3 (ev2 rfl) rfl) ?_
        refine lex_gr (gd_tt rfl rfl rfl) rfl rfl (op_add' rfl (ev2 rfl) (ev1 rfl) (fun hp => IntWalk.i64_in _ (by first | omega | (simp at hp; omega)))) ?_
        refine lex_gr (gd_tt rfl rfl rfl) rfl rfl (op_fa rfl fo40_1 (ev1 rfl)) ?_
        refine lex_gr (gd_tt rfl rfl rfl) rfl rfl (op_ldo rfl tb3 (ev2 rfl) rfl rfl) ?_
        refine lex_gr (gd_tt rfl rfl rfl) rfl rfl (op_geq rfl (ev2 rfl) (ev2 rfl)) ?_
        refine lex_gr (gd_ff rfl rfl rfl) rfl rfl (op_and rfl (ev2 rfl) (ev2 rfl)) ?_
        refine lex_k (gd_t (b := true) rfl rfl rfl) rfl rfl (op_or rfl (ev2 rfl) (ev3 rfl id)) rfl (by simp only [upd, zaa, za]; exact rfl) ?_
        refine lex_r rfl rfl (op_and rfl (ev1 rfl) (ev3 rfl (fun _ => rfl))) ?_
        refine lex_nil ?_
        refine dwp_cond rfl (fun c3 => ?_) (fun c3 => ?_)
        · have hap : ¬ apS l[i - 1] l[i] := by unfold apS; simp at c3; omega
          refine zae ?_
          refine zad ?_
          refine zab rfl rfl rfl (zac (.inr rfl) (ev1 rfl)) ?_
          refine zaf ?_
          refine dwp_ret ?_
          refine kend0 (rs1 rfl (rv_t rfl)) rfl ?_
          rw [decide_eq_false (chkS_not2 hi h0 hap)]
        · have hap : apS l[i - 1] l[i] := by unfold apS; simp at c3; omega
          refine dwp_skip ?_
          refine zad ?_
          refine zab rfl rfl rfl (op_add' rfl (ev1 rfl) (ev1 rfl) (fun _ => IntWalk.i64_in _ (by omega))) ?_
          refine zab rfl rfl rfl (zac (.inl rfl) (ev1 rfl)) ?_
          refine zaf ?_
          refine ⟨i + 1, [], ⟨by omega, chkS_add hi hok hv fun _ => hap⟩, by simp only []; omega, rfl, ⟨rfl, rfl, rfl, rfl, trivial⟩, trivial⟩
      · refine dwp_draw [([], []), ([], []), ([], []), ([], []), ([], []), ([], []), ([], []), ([], []), ([], []), ([], []), ([], []), ([], []), ([], []), ([], []), ([], []), ([], []), ([], []), ([], []), ([], []), ([], []), ([], []), ([], []), ([], []), ([], []), ([], []), ([], []), ([], []), ([], []), ([], []), ([], []), ([], []), ([], []), ([], []), ([], []), ([], []), ([], [])] mixed (by kernel_rfl) ?_
        refine lex_r rfl rfl (zac (.inl rfl) (ev1 rfl)) ?_
        refine lex_r rfl rfl ((op_gtr rfl (ev1 rfl) (ev1 rfl)).cast (d' := .val (.bool false)) (by rw [D.val.injEq, Value.bool.injEq, decide_eq_false_iff_not]; omega)) ?_
        refine lex_r rfl rfl (zac (.inl rfl) (ev1 rfl)) ?_
        refine lex_gr (gd_t (b := false) rfl rfl rfl) rfl rfl (dop_never (d := .junk)) ?_
        refine lex_gr (gd_t (b := false) rfl rfl rfl) rfl rfl (dop_never (d := .junk)) ?_
        refine lex_gr (gd_t (b := false) rfl rfl rfl) rfl rfl (dop_never (d := .val (.bool false))) ?_
        refine lex_gr (gd_t (b := false) rfl rfl rfl) rfl rfl (dop_never (d := .junk)) ?_
        refine lex_gr (gd_t (b := false) rfl rfl rfl) rfl rfl (dop_never (d := .junk)) ?_
        refine lex_gr (gd_t (b := false) rfl rfl rfl) rfl rfl (dop_never (d := .junk)) ?_
        refine lex_gr (gd_t (b := false) rfl rfl rfl) rfl rfl (dop_never (d := .junk)) ?_
        refine lex_gr (gd_t (b := false) rfl rfl rfl) rfl rfl (dop_never (d := .junk)) ?_
        refine lex_gr (gd_t (b := false) rfl rfl rfl) rfl rfl (dop_never (d := .val (.bool false))) ?_
        refine lex_gr (gd_t (b := false) rfl rfl rfl) rfl rfl (dop_never (d := .val (.bool false))) ?_
        refine lex_gr (gd_ff (g := false) (b := false) rfl rfl rfl) rfl rfl (dop_never (d := .junk)) ?_
        refine lex_gr (gd_ff (g := false) (b := false) rfl rfl rfl) rfl rfl (dop_never (d := .junk)) ?_
        refine lex_gr (gd_ff (g := false) (b := false) rfl rfl rfl) rfl rfl (dop_never (d := .val (.bool false))) ?_
        refine lex_gr (gd_ff (g := false) (b := false) rfl rfl rfl) rfl rfl (dop_never (d := .junk)) ?_
        refine lex_gr (gd_ff (g := false) (b := false) rfl rfl rfl) rfl rfl (dop_never (d := .junk)) ?_
        refine lex_gr (gd_ff (g := false) (b := false) rfl rfl rfl) rfl rfl (dop_never (d := .junk)) ?_
        refine lex_gr (gd_ff (g := false) (b := false) rfl rfl rfl) rfl rfl (dop_never (d := .junk)) ?_
        refine lex_gr (gd_ff (g := false) (b := false) rfl rfl rfl) rfl rfl (dop_never (d := .junk)) ?_
        refine lex_gr (gd_ff (g := false) (b := false) rfl rfl rfl) rfl rfl (dop_never (d := .val (.bool false))) ?_
        refine lex_gr (gd_ff (g := false) (b := false) rfl rfl rfl) rfl rfl (dop_never (d := .val (.bool false))) ?_
        refine lex_gr (gd_tt (g := false) (b := false) rfl rfl rfl) rfl rfl (dop_never (d := .junk)) ?_
        refine lex_gr (gd_tt (g := false) (b := false) rfl rfl rfl) rfl rfl (dop_never (d := .junk)) ?_
        refine lex_gr (gd_tt (g := false) (b := false) rfl rfl rfl) rfl rfl (dop_never (d := .val (.bool false))) ?_
        refine lex_gr (gd_tt (g := false) (b := false) rfl rfl rfl) rfl rfl (dop_never (d := .junk)) ?_
        refine lex_gr (gd_tt (g := false) (b := false) rfl rfl rfl) rfl rfl (dop_never (d := .junk)) ?_
        refine lex_gr (gd_tt (g := false) (b := false) rfl rfl rfl) rfl rfl (dop_never (d := .junk)) ?_
        refine lex_gr (gd_tt (g := false) (b := false) rfl rfl rfl) rfl rfl (dop_never (d := .val (.bool false))) ?_
        refine lex_gr (gd_tt (g := false) (b := false) rfl rfl rfl) rfl rfl (dop_never (d := .junk)) ?_
        refine lex_gr (gd_tt (g := false) (b := false) rfl rfl rfl) rfl rfl (dop_never (d := .junk)) ?_
        refine lex_gr (gd_tt (g := false) (b := false) rfl rfl rfl) rfl rfl (dop_never (d := .val (.bool false))) ?_
        refine lex_gr (gd_ff (g := false) (b := false) rfl rfl rfl) rfl rfl (dop_never (d := .val (.bool false))) ?_
        refine lex_gr (gd_t (b := false) rfl rfl rfl) rfl rfl (dop_never (d := .val (.bool false))) ?_
        refine lex_r rfl rfl ((op_and rfl (ev1 rfl) (ev3 rfl id)).cast (d' := .val (.bool false)) (by rfl)) ?_
        refine lex_nil ?_
        refine dwp_if_f rfl (rfl) ?_
        refine dwp_skip ?_
        refine zad ?_
        refine zab rfl rfl rfl (op_add' rfl (ev1 rfl) (ev1 rfl) (fun _ => IntWalk.i64_in _ (by omega))) ?_
        refine zab rfl rfl rfl (zac (.inl rfl) (ev1 rfl)) ?_
        refine zaf ?_
        refine ⟨i + 1, [], ⟨by omega, chkS_add hi hok hv fun h => absurd h h0⟩, by simp only []; omega, rfl, ⟨rfl, rfl, rfl, rfl, trivial⟩, trivial⟩
  · try simp only [yg, ya, beq_iff_eq, bne_iff_ne, yb, yc, yf, ye, yh, yi, yd, ne_eq, yj, Int.not_lt, Int.not_le] at c1
    refine dwp_exit ?_
    refine zae ?_
    refine zad ?_
    refine zab rfl rfl rfl (zac (.inr rfl) (ev1 rfl)) ?_
    refine zaf ?_
    refine dwp_ret ?_
    rw [take_all (by omega)] at hok
    refine kend0 (rs1 rfl (rv_t rfl)) rfl ?_
    rw [decide_eq_true hok]
set_option maxRecDepth 4000 in
set_option maxHeartbeats 1000000 in
theorem rclip_o (l : List Sp) (c : Bx) (hn : l.length ≤ 100000) : DFun Try.prog 29 [.slf 3 (l).length ((l).flatMap s3), .val (.agg #[.int .i64 c.x, .int .i64 c.y, .int .i64 c.x2, .int .i64 c.y2])] [] (.arr 0) [.arr 40 3 (clipS c l).length ((clipS c l).flatMap s3)] := by
  refine dcalls_go (N := 53) 0 (by kernel_rfl) Try.func29 rfl rfl rfl (by simp only [fr0, Nat.zero_add, Nat.reduceAdd]; exact rfl) rfl fun s0 hs0 => ?_
  refine dwp_len (t := 0) rfl fun hl0 hL0 => ?_
  refine zae ?_
  refine dwp_holes 1 (by simp only [holes, List.cons_append, List.nil_append]; exact rfl) ?_
  refine zad ?_
  refine walk_w rfl rfl rfl (op_boxa 0 rfl (ev1 rfl) rfl) (by simp only [upd, zaa, za]; exact rfl) ?_
  refine zab rfl rfl rfl (zac (.inr rfl) (ev1 rfl)) ?_
  refine zaf ?_
  refine zae ?_
  refine zad ?_
  refine zab rfl rfl rfl (zac (.inr rfl) (ev1 rfl)) ?_
  refine zaf ?_
  refine zae ?_
  refine zae ?_
  refine zad ?_
  refine zab rfl rfl rfl (zac (.inl rfl) (ev1 rfl)) ?_
  refine zab rfl rfl rfl (op_len rfl sl32 (ev1 rfl)) ?_
  refine zab rfl rfl rfl (zac (.inl rfl) (ev1 rfl)) ?_
  refine zaf ?_
  refine dwp_block ?_
  refine dwp_adopt 5 40 3 rfl rfl rfl ?_
  refine dwp_loopS ⟨hs0, rfl⟩ (α := Nat) (fun i => [(10, .val (.int .i64 (i : Int)))]) [(3, _), (5, _), (8, _), (9, _)] (fun i => [(1, .arr 40 3 (clipS c (l.take i)).length ((clipS c (l.take i)).flatMap s3))]) [_, .hole] (fun i => i ≤ l.length) (fun i => l.length - i) 0 [0, 1] (Nat.zero_le _) rfl ⟨rfl, rfl, rfl, rfl, trivial⟩ ⟨rfl, trivial⟩ ⟨rfl, rfl, trivial⟩ ?_
  intro i hx
  simp only [upd, zaa, za, List.cons_append, List.nil_append]
  have hi0 := hx
  have hcl2 := clipS_len c (l.take i)
  rw [List.length_take] at hcl2
  refine zae ?_
  refine zad ?_
  refine zab rfl rfl rfl (op_lss rfl (ev1 rfl) (ev1 rfl)) ?_
  refine zaf ?_
  refine zae ?_
  refine dwp_cond rfl (fun c1 => ?_) (fun c1 => ?_)
  · try simp only [yg, ya, beq_iff_eq, bne_iff_ne, yb, yc, yf, ye, yh, yi, yd, ne_eq, yj, Int.not_lt, Int.not_le] at c1
    refine dwp_skip ?_
    refine zae ?_
    refine dwp_block ?_
    refine zae ?_
    have hi : i < l.length := by omega
    refine dwp_holes 1 (by simp only [holes, List.cons_append, List.nil_append]; exact rfl) ?_
    refine zad ?_
    refine zab rfl rfl rfl (op_ixsr (j := i) rfl sl32 (ev1 rfl) (ev1 rfl) (fun _ => rfl) (by decide) (by omega) (by omega)) ?_
    refine zab rfl rfl rfl (op_ldwd rfl tb40 (ev1 rfl) rfl) ?_
    refine walk_w rfl rfl rfl (op_alloc 2 rfl zr40 rfl) (by simp only [upd, zaa, za]; exact rfl) ?_
    refine walk_s rfl rfl (op_stwa rfl tb40 (ev1 rfl) (ev1 rfl) rfl rfl rfl rfl) (by simp only [upd, zaa, za]; exact rfl) ?_
    refine zaf ?_
    refine zae ?_
    refine zae ?_
    refine zad ?_
    refine zab rfl rfl rfl (op_fa rfl fo40_0 (ev1 rfl)) ?_
    refine zab rfl rfl rfl (op_ldo rfl tb3 (ev1 rfl) rfl rfl) ?_
    refine zab rfl rfl rfl (op_fa rfl fo53_1 (ev1 rfl)) ?_
    refine zab rfl rfl rfl (op_ldo rfl tb3 (ev1 rfl) rfl rfl) ?_
    refine zab rfl rfl rfl (op_lss rfl (ev1 rfl) (ev1 rfl)) ?_
    refine zab rfl rfl rfl (zac (.inl rfl) (ev1 rfl)) ?_
    refine walk_gr (gd_f rfl rfl rfl) rfl rfl rfl (op_fa rfl fo40_0 (ev1 rfl)) ?_
    refine walk_gr (gd_f rfl rfl rfl) rfl rfl rfl (op_ldo rfl tb3 (ev2 rfl) rfl rfl) ?_
    refine walk_gr (gd_f rfl rfl rfl) rfl rfl rfl (op_fa rfl fo53_3 (ev1 rfl)) ?_
    refine walk_gr (gd_f rfl rfl rfl) rfl rfl rfl (op_ldo rfl tb3 (ev2 rfl) rfl rfl) ?_
    refine walk_gr (gd_f rfl rfl rfl) rfl rfl rfl (op_gtr rfl (ev2 rfl) (ev2 rfl)) ?_
    refine zab rfl rfl rfl (op_or rfl (ev1 rfl) (ev3 rfl id)) ?_
    refine zaf ?_
    refine dwp_cond rfl (fun c2 => ?_) (fun c2 => ?_)
    · try simp only [yg, ya, beq_iff_eq, bne_iff_ne, yb, yc, yf, ye, yh, yi, yd, ne_eq, yj, Int.not_lt, Int.not_le] at c2
      refine dwp_exit ?_
      refine zad ?_
      refine zab rfl rfl rfl (op_add' rfl (ev1 rfl) (ev1 rfl) (fun _ => IntWalk.i64_in _ (by omega))) ?_
      refine zab rfl rfl rfl (zac (.inl rfl) (ev1 rfl)) ?_
      refine zaf ?_
      refine ⟨i + 1, [0, 1], by omega, by simp only []; omega, rfl, ⟨rfl, rfl, rfl, rfl, rfl, trivial⟩, ⟨rfl, (by rw [clipS_add hi, if_neg (by unfold inBx; simp only [Bool.and_eq_true, decide_eq_true_eq]; omega), List.append_nil]; rfl), trivial⟩⟩
    · try simp only [yg, ya, beq_iff_eq, bne_iff_ne, yb, yc, yf, ye, yh, yi, yd, ne_eq, yj, Int.not_lt, Int.not_le] at c2
      refine dwp_skip ?_
      refine zae ?_
      refine zae ?_
      refine zad ?_
      refine zab rfl rfl rfl (op_fa rfl fo40_1 (ev1 rfl)) ?_
      refine zab rfl rfl rfl (op_ldo rfl tb3 (ev1 rfl) rfl rfl) ?_
      refine zab rfl rfl rfl (op_fa rfl fo53_0 (ev1 rfl)) ?_
      refine zab rfl rfl rfl (op_ldo rfl tb3 (ev1 rfl) rfl rfl) ?_
      refine zab rfl rfl rfl (op_lss rfl (ev1 rfl) (ev1 rfl)) ?_
      refine zaf ?_
      refine dwp_cond rfl (fun c3 => ?_) (fun c3 => ?_)
      · try simp only [yg, ya, beq_iff_eq, bne_iff_ne, yb, yc, yf, ye, yh, yi, yd, ne_eq, yj, Int.not_lt, Int.not_le] at c3
        refine zad ?_
        refine zab rfl rfl rfl (op_fa rfl fo53_0 (ev1 rfl)) ?_
        refine zab rfl rfl rfl (op_ldo rfl tb3 (ev1 rfl) rfl rfl) ?_
        refine zab rfl rfl rfl (op_fa rfl fo40_1 (ev1 rfl)) ?_
        refine walk_s rfl rfl (op_st1 rfl tb3 (ev1 rfl) (ev1 rfl) rfl (Nat.le_of_ble_eq_true rfl) rfl) (by simp only [upd, zaa, za]; exact rfl) ?_
        refine zaf ?_
        refine zae ?_
        refine zae ?_
        refine zad ?_
        refine zab rfl rfl rfl (op_fa rfl fo40_2 (ev1 rfl)) ?_
        refine zab rfl rfl rfl (op_ldo rfl tb3 (ev1 rfl) rfl rfl) ?_
        refine zab rfl rfl rfl (op_fa rfl fo53_2 (ev1 rfl)) ?_
        refine zab rfl rfl rfl (op_ldo rfl tb3 (ev1 rfl) rfl rfl) ?_
        refine zab rfl rfl rfl (op_gtr rfl (ev1 rfl) (ev1 rfl)) ?_
        refine zaf ?_
        refine dwp_cond rfl (fun c4 => ?_) (fun c4 => ?_)
        · try simp only [yg, ya, beq_iff_eq, bne_iff_ne, yb, yc, yf, ye, yh, yi, yd, ne_eq, yj, Int.not_lt, Int.not_le] at c4
          refine zad ?_
          refine zab rfl rfl rfl (op_fa rfl fo53_2 (ev1 rfl)) ?_
          refine zab rfl rfl rfl (op_ldo rfl tb3 (ev1 rfl) rfl rfl) ?_
          refine zab rfl rfl rfl (op_fa rfl fo40_2 (ev1 rfl)) ?_
          refine walk_s rfl rfl (op_st1 rfl tb3 (ev1 rfl) (ev1 rfl) rfl (Nat.le_of_ble_eq_true rfl) rfl) (by simp only [upd, zaa, za]; exact rfl) ?_
          refine zaf ?_
          refine zae ?_
          refine zad ?_
          refine zab rfl rfl rfl (op_fa rfl fo40_1 (ev1 rfl)) ?_
          refine zab rfl rfl rfl (op_ldo rfl tb3 (ev1 rfl) rfl rfl) ?_
          refine zab rfl rfl rfl (op_fa rfl fo40_2 (ev1 rfl)) ?_
          refine zab rfl rfl rfl (op_ldo rfl tb3 (ev1 rfl) rfl rfl) ?_
          refine zab rfl rfl rfl (op_leq rfl (ev1 rfl) (ev1 rfl)) ?_
          refine zaf ?_
          refine dwp_cond rfl (fun c5 => ?_) (fun c5 => ?_)
          · try simp only [yg, ya, beq_iff_eq, bne_iff_ne, yb, yc, yf, ye, yh, yi, yd, ne_eq, yj, Int.not_lt, Int.not_le] at c5
            refine dwp_holes 1 (by simp only [holes, List.cons_append, List.nil_append]; exact rfl) ?_
            refine zad ?_
            refine zab rfl rfl rfl (zac (.inl rfl) (ev1 rfl)) ?_
            refine zab rfl rfl rfl (op_ldw rfl tb40 (ev1 rfl) rfl rfl) ?_
            refine zab rfl rfl rfl (op_bs (ps := [(0, .tmp 48)]) rfl sl32 zr40 rfl (vc (ev1 rfl) vn) rfl (by decide) (by decide)) ?_
            refine walk_w rfl rfl rfl (op_app (j := 3) rfl sl32 zr40 rfl (ev1 rfl) (ev1 rfl) src_slf rfl rfl (fun _ => rfl) (fun _ => ⟨by omega, by omega⟩)) (by simp only [upd, zaa, za]; exact rfl) ?_
            refine zab rfl rfl rfl (zac (.inr rfl) (ev1 rfl)) ?_
            refine zaf ?_
            refine zad ?_
            refine zab rfl rfl rfl (op_add' rfl (ev1 rfl) (ev1 rfl) (fun _ => IntWalk.i64_in _ (by omega))) ?_
            refine zab rfl rfl rfl (zac (.inl rfl) (ev1 rfl)) ?_
            refine zaf ?_
            refine ⟨i + 1, [0, 3], by omega, by simp only []; omega, rfl, ⟨rfl, rfl, rfl, rfl, rfl, trivial⟩, ⟨rfl, (by rw [clipS_add hi, if_pos (by unfold inBx; simp only [Bool.and_eq_true, decide_eq_true_eq]; omega), List.length_append, List.flatMap_append, show l[i].clip c = ⟨l[i].y, c.x, c.x2⟩ from by unfold Sp.clip; congr 1 <;> omega]; rfl), trivial⟩⟩
          · try simp only [yg, ya, beq_iff_eq, bne_iff_ne, yb, yc, yf, ye, yh, yi, yd, ne_eq, yj, Int.not_lt, Int.not_le] at c5
            refine dwp_skip ?_
            refine zad ?_
            refine zab rfl rfl rfl (op_add' rfl (ev1 rfl) (ev1 rfl) (fun _ => IntWalk.i64_in _ (by omega))) ?_
            refine zab rfl rfl rfl (zac (.inl rfl) (ev1 rfl)) ?_
            refine zaf ?_
            refine ⟨i + 1, [0, 1], by omega, by simp only []; omega, rfl, ⟨rfl, rfl, rfl, rfl, rfl, trivial⟩, ⟨rfl, (by rw [clipS_add hi, if_neg (by unfold inBx; simp only [Bool.and_eq_true, decide_eq_true_eq]; omega), List.append_nil]; rfl), trivial⟩⟩
        · try simp only [yg, ya, beq_iff_eq, bne_iff_ne, yb, yc, yf, ye, yh, yi, yd, ne_eq, yj, Int.not_lt, Int.not_le] at c4
          refine dwp_skip ?_
          refine zae ?_
          refine zad ?_
          refine zab rfl rfl rfl (op_fa rfl fo40_1 (ev1 rfl)) ?_
          refine zab rfl rfl rfl (op_ldo rfl tb3 (ev1 rfl) rfl rfl) ?_
          refine zab rfl rfl rfl (op_fa rfl fo40_2 (ev1 rfl)) ?_
          refine zab rfl rfl rfl (op_ldo rfl tb3 (ev1 rfl) rfl rfl) ?_
          refine zab rfl rfl rfl (op_leq rfl (ev1 rfl) (ev1 rfl)) ?_
          refine zaf ?_
          refine dwp_cond rfl (fun c6 => ?_) (fun c6 => ?_)
          · try simp only [yg, ya, beq_iff_eq, bne_iff_ne, yb, yc, yf, ye, yh, yi, yd, ne_eq, yj, Int.not_lt, Int.not_le] at c6
            refine dwp_holes 1 (by simp only [holes, List.cons_append, List.nil_append]; exact rfl) ?_
            refine zad ?_
            refine zab rfl rfl rfl (zac (.inl rfl) (ev1 rfl)) ?_
            refine zab rfl rfl rfl (op_ldw rfl tb40 (ev1 rfl) rfl rfl) ?_
            refine zab rfl rfl rfl (op_bs (ps := [(0, .tmp 48)]) rfl sl32 zr40 rfl (vc (ev1 rfl) vn) rfl (by decide) (by decide)) ?_
            refine walk_w rfl rfl rfl (op_app (j := 3) rfl sl32 zr40 rfl (ev1 rfl) (ev1 rfl) src_slf rfl rfl (fun _ => rfl) (fun _ => ⟨by omega, by omega⟩)) (by simp only [upd, zaa, za]; exact rfl) ?_
            refine zab rfl rfl rfl (zac (.inr rfl) (ev1 rfl)) ?_
            refine zaf ?_
            refine zad ?_
            refine zab rfl rfl rfl (op_add' rfl (ev1 rfl) (ev1 rfl) (fun _ => IntWalk.i64_in _ (by omega))) ?_
            refine zab rfl rfl rfl (zac (.inl rfl) (ev1 rfl)) ?_
            refine zaf ?_
            refine ⟨i + 1, [0, 3], by omega, by simp only []; omega, rfl, ⟨rfl, rfl, rfl, rfl, rfl, trivial⟩, ⟨rfl, (by rw [clipS_add hi, if_pos (by unfold inBx; simp only [Bool.and_eq_true, decide_eq_true_eq]; omega), List.length_append, List.flatMap_append, show l[i].clip c = ⟨l[i].y, c.x, l[i].t⟩ from by unfold Sp.clip; congr 1 <;> omega]; rfl), trivial⟩⟩
          · try simp only [yg, ya, beq_iff_eq, bne_iff_ne, yb, yc, yf, ye, yh, yi, yd, ne_eq, yj, Int.not_lt, Int.not_le] at c6
            refine dwp_skip ?_
            refine zad ?_
            refine zab rfl rfl rfl (op_add' rfl (ev1 rfl) (ev1 rfl) (fun _ => IntWalk.i64_in _ (by omega))) ?_
            refine zab rfl rfl rfl (zac (.inl rfl) (ev1 rfl)) ?_
            refine zaf ?_
            refine ⟨i + 1, [0, 1], by omega, by simp only []; omega, rfl, ⟨rfl, rfl, rfl, rfl, rfl, trivial⟩, ⟨rfl, (by rw [clipS_add hi, if_neg (by unfold inBx; simp only [Bool.and_eq_true, decide_eq_true_eq]; omega), List.append_nil]; rfl), trivial⟩⟩
      · try simp only [yg, ya, beq_iff_eq, bne_iff_ne, yb, yc, yf, ye, yh, yi, yd, ne_eq, yj, Int.not_lt, Int.not_le] at c3
        refine dwp_skip ?_
        refine zae ?_
        refine zae ?_
        refine zad ?_
        refine zab rfl rfl rfl (op_fa rfl fo40_2 (ev1 rfl)) ?_
        refine zab rfl rfl rfl (op_ldo rfl tb3 (ev1 rfl) rfl rfl) ?_
        refine zab rfl rfl rfl (op_fa rfl fo53_2 (ev1 rfl)) ?_
        refine zab rfl rfl rfl (op_ldo rfl tb3 (ev1 rfl) rfl rfl) ?_
        refine zab rfl rfl rfl (op_gtr rfl (ev1 rfl) (ev1 rfl)) ?_
        refine zaf ?_
        refine dwp_cond rfl (fun c7 => ?_) (fun c7 => ?_)
        · try simp only [yg, ya, beq_iff_eq, bne_iff_ne, yb, yc, yf, ye, yh, yi, yd, ne_eq, yj, Int.not_lt, Int.not_le] at c7
          refine zad ?_
          refine zab rfl rfl rfl (op_fa rfl fo53_2 (ev1 rfl)) ?_
          refine zab rfl rfl rfl (op_ldo rfl tb3 (ev1 rfl) rfl rfl) ?_
          refine zab rfl rfl rfl (op_fa rfl fo40_2 (ev1 rfl)) ?_
          refine walk_s rfl rfl (op_st1 rfl tb3 (ev1 rfl) (ev1 rfl) rfl (Nat.le_of_ble_eq_true rfl) rfl) (by simp only [upd, zaa, za]; exact rfl) ?_
          refine zaf ?_
          refine zae ?_
          refine zad ?_
          refine zab rfl rfl rfl (op_fa rfl fo40_1 (ev1 rfl)) ?_
          refine zab rfl rfl rfl (op_ldo rfl tb3 (ev1 rfl) rfl rfl) ?_
          refine zab rfl rfl rfl (op_fa rfl fo40_2 (ev1 rfl)) ?_
          refine zab rfl rfl rfl (op_ldo rfl tb3 (ev1 rfl) rfl rfl) ?_
          refine zab rfl rfl rfl (op_leq rfl (ev1 rfl) (ev1 rfl)) ?_
          refine zaf ?_
          refine dwp_cond rfl (fun c8 => ?_) (fun c8 => ?_)
          · try simp only [yg, ya, beq_iff_eq, bne_iff_ne, yb, yc, yf, ye, yh, yi, yd, ne_eq, yj, Int.not_lt, Int.not_le] at c8
            refine dwp_holes 1 (by simp only [holes, List.cons_append, List.nil_append]; exact rfl) ?_
            refine zad ?_
            refine zab rfl rfl rfl (zac (.inl rfl) (ev1 rfl)) ?_
            refine zab rfl rfl rfl (op_ldw rfl tb40 (ev1 rfl) rfl rfl) ?_
            refine zab rfl rfl rfl (op_bs (ps := [(0, .tmp 48)]) rfl sl32 zr40 rfl (vc (ev1 rfl) vn) rfl (by decide) (by decide)) ?_
            refine walk_w rfl rfl rfl (op_app (j := 3) rfl sl32 zr40 rfl (ev1 rfl) (ev1 rfl) src_slf rfl rfl (fun _ => rfl) (fun _ => ⟨by omega, by omega⟩)) (by simp only [upd, zaa, za]; exact rfl) ?_
            refine zab rfl rfl rfl (zac (.inr rfl) (ev1 rfl)) ?_
            refine zaf ?_
            refine zad ?_
            refine zab rfl rfl rfl (op_add' rfl (ev1 rfl) (ev1 rfl) (fun _ => IntWalk.i64_in _ (by omega))) ?_
            refine zab rfl rfl rfl (zac (.inl rfl) (ev1 rfl)) ?_
            refine zaf ?_
            refine ⟨i + 1, [0, 3], by omega, by simp only []; omega, rfl, ⟨rfl, rfl, rfl, rfl, rfl, trivial⟩, ⟨rfl, (by rw [clipS_add hi, if_pos (by unfold inBx; simp only [Bool.and_eq_true, decide_eq_true_eq]; omega), List.length_append, List.flatMap_append, show l[i].clip c = ⟨l[i].y, l[i].f, c.x2⟩ from by unfold Sp.clip; congr 1 <;> omega]; rfl), trivial⟩⟩
          · try simp only [yg, ya, beq_iff_eq, bne_iff_ne, yb, yc, yf, ye, yh, yi, yd, ne_eq, yj, Int.not_lt, Int.not_le] at c8
            refine dwp_skip ?_
            refine zad ?_
            refine zab rfl rfl rfl (op_add' rfl (ev1 rfl) (ev1 rfl) (fun _ => IntWalk.i64_in _ (by omega))) ?_
            refine zab rfl rfl rfl (zac (.inl rfl) (ev1 rfl)) ?_
            refine zaf ?_
            refine ⟨i + 1, [0, 1], by omega, by simp only []; omega, rfl, ⟨rfl, rfl, rfl, rfl, rfl, trivial⟩, ⟨rfl, (by rw [clipS_add hi, if_neg (by unfold inBx; simp only [Bool.and_eq_true, decide_eq_true_eq]; omega), List.append_nil]; rfl), trivial⟩⟩
        · try simp only [yg, ya, beq_iff_eq, bne_iff_ne, yb, yc, yf, ye, yh, yi, yd, ne_eq, yj, Int.not_lt, Int.not_le] at c7
          refine dwp_skip ?_
          refine zae ?_
          refine zad ?_
          refine zab rfl rfl rfl (op_fa rfl fo40_1 (ev1 rfl)) ?_
          refine zab rfl rfl rfl (op_ldo rfl tb3 (ev1 rfl) rfl rfl) ?_
          refine zab rfl rfl rfl (op_fa rfl fo40_2 (ev1 rfl)) ?_
          refine zab rfl rfl rfl (op_ldo rfl tb3 (ev1 rfl) rfl rfl) ?_
          refine zab rfl rfl rfl (op_leq rfl (ev1 rfl) (ev1 rfl)) ?_
          refine zaf ?_
          refine dwp_cond rfl (fun c9 => ?_) (fun c9 => ?_)
          · try simp only [yg, ya, beq_iff_eq, bne_iff_ne, yb, yc, yf, ye, yh, yi, yd, ne_eq, yj, Int.not_lt, Int.not_le] at c9
            refine dwp_holes 1 (by simp only [holes, List.cons_append, List.nil_append]; exact rfl) ?_
            refine zad ?_
            refine zab rfl rfl rfl (zac (.inl rfl) (ev1 rfl)) ?_
            refine zab rfl rfl rfl (op_ldw rfl tb40 (ev1 rfl) rfl rfl) ?_
            refine zab rfl rfl rfl (op_bs (ps := [(0, .tmp 48)]) rfl sl32 zr40 rfl (vc (ev1 rfl) vn) rfl (by decide) (by decide)) ?_
            refine walk_w rfl rfl rfl (op_app (j := 3) rfl sl32 zr40 rfl (ev1 rfl) (ev1 rfl) src_slf rfl rfl (fun _ => rfl) (fun _ => ⟨by omega, by omega⟩)) (by simp only [upd, zaa, za]; exact rfl) ?_
            refine zab rfl rfl rfl (zac (.inr rfl) (ev1 rfl)) ?_
            refine zaf ?_
            refine zad ?_
            refine zab rfl rfl rfl (op_add' rfl (ev1 rfl) (ev1 rfl) (fun _ => IntWalk.i64_in _ (by omega))) ?_
            refine zab rfl rfl rfl (zac (.inl rfl) (ev1 rfl)) ?_
            refine zaf ?_
            refine ⟨i + 1, [0, 3], by omega, by simp only []; omega, rfl, ⟨rfl, rfl, rfl, rfl, rfl, trivial⟩, ⟨rfl, (by rw [clipS_add hi, if_pos (by unfold inBx; simp only [Bool.and_eq_true, decide_eq_true_eq]; omega), List.length_append, List.flatMap_append, show l[i].clip c = ⟨l[i].y, l[i].f, l[i].t⟩ from by unfold Sp.clip; congr 1 <;> omega]; rfl), trivial⟩⟩
          · try simp only [yg, ya, beq_iff_eq, bne_iff_ne, yb, yc, yf, ye, yh, yi, yd, ne_eq, yj, Int.not_lt, Int.not_le] at c9
            refine dwp_skip ?_
            refine zad ?_
            refine zab rfl rfl rfl (op_add' rfl (ev1 rfl) (ev1 rfl) (fun _ => IntWalk.i64_in _ (by omega))) ?_
            refine zab rfl rfl rfl (zac (.inl rfl) (ev1 rfl)) ?_
            refine zaf ?_
            refine ⟨i + 1, [0, 1], by omega, by simp only []; omega, rfl, ⟨rfl, rfl, rfl, rfl, rfl, trivial⟩, ⟨rfl, (by rw [clipS_add hi, if_neg (by unfold inBx; simp only [Bool.and_eq_true, decide_eq_true_eq]; omega), List.append_nil]; rfl), trivial⟩⟩
  · try simp only [yg, ya, beq_iff_eq, bne_iff_ne, yb, yc, yf, ye, yh, yi, yd, ne_eq, yj, Int.not_lt, Int.not_le] at c1
    refine dwp_exit ?_
    refine zae ?_
    refine zad ?_
    refine zab rfl rfl rfl (zac (.inl rfl) (ev1 rfl)) ?_
    refine zab rfl rfl rfl (zac (.inr rfl) (ev1 rfl)) ?_
    refine zaf ?_
    refine dwp_ret ?_
    refine kend [1] (rs1 rfl (rv_t rfl)) rfl rfl ?_ ⟨?_, trivial⟩
    rfl
    exact (by rw [take_all (by omega)]; rfl)
theorem rclip_d (l : List Sp) (c : Bx) (hn : l.length ≤ 100000) : DFun Try.prog 29 [.slf 3 (l).length ((l).flatMap s3), .val (.agg #[.int .i64 c.x, .int .i64 c.y, .int .i64 c.x2, .int .i64 c.y2])] [] (.slf 3 ((clipS c l)).length (((clipS c l)).flatMap s3)) [] := freeze (rclip_o l c hn) rfl
set_option maxRecDepth 4000
theorem ptsS_app (a b : List Sp) : ptsS (a ++ b) = ptsS a ++ ptsS b := by unfold ptsS; rw [List.flatMap_append]
theorem ub_row {rr : List (List Sp)} (h : allC rr = true) : rowK (-256) (-256) 512 (ptsS rr.flatten) (512 * 512) = uniL rr := by
  have g := rowK_has (X := -256) (Y := -256) (w := 512) (h := 512) (by omega) (ptsS rr.flatten)
  refine okS_uniq g.1 (uni_chk h).ok fun x y => ?_
  rw [g.2, uni_has h, ptsS_mem]
  have e : hasS rr.flatten x y ↔ ∃ l ∈ rr, hasS l x y := by
    constructor
    · rintro ⟨s, hs, q⟩
      obtain ⟨l, hl, h1⟩ := List.mem_flatten.1 hs
      exact ⟨l, hl, s, h1, q⟩
    · rintro ⟨l, hl, s, hs, q⟩
      exact ⟨s, List.mem_flatten.2 ⟨l, hl, hs⟩, q⟩
  constructor
  · rintro ⟨_, q⟩
    exact e.1 q
  · rintro q
    refine ⟨?_, e.2 q⟩
    obtain ⟨s, hs, q1, q2, q3⟩ := e.2 q
    have hr := (allC_flat h s hs).1
    unfold rchS at hr
    omega
attribute [local irreducible] fmF rowK rngN
theorem blb_d : DFun Try.prog 41 [.val (.agg #[.int .i64 (-256), .int .i64 (-256), .int .i64 255, .int .i64 255])] [] (.arr 0) [.arx 80 1 512 ((rngN 512).flatMap fun k => [.farr 1 k]), .fam (fmF (-256) (-256) 512 512 ([]))] := blank_d (-256) (-256) 512 512 (by decide) (by decide) (by decide) (by decide)
theorem rrb_d (pts : List P2) : DFun Try.prog 42 [.val (.agg #[.int .i64 (-256), .int .i64 (-256), .int .i64 255, .int .i64 255]), .arr 0] [.arx 80 1 512 ((rngN 512).flatMap fun k => [.farr 1 k]), .fam (fmF (-256) (-256) 512 512 (pts))] (.arr 2) [.arx 80 1 512 ((rngN 512).flatMap fun k => [.farr 1 k]), .fam (fmF (-256) (-256) 512 512 (pts)), .arr 40 3 (rowK (-256) (-256) 512 pts (512 * 512)).length ((rowK (-256) (-256) 512 pts (512 * 512)).flatMap s3)] := rrow_d (-256) (-256) 512 512 (by decide) (by decide) (by decide) (by decide) pts (by decide)
set_option maxRecDepth 4000 in
set_option maxHeartbeats 1000000 in
theorem runion_o (rr : List (List Sp)) (hc : allC rr = true) (hn : rr.flatten.length ≤ 1000000) : DFun Try.prog 35 [.slm 1 (rr).length ((rr).flatMap fun l => [.slf 3 (l).length ((l).flatMap s3)])] [] (.arr 0) [.arr 40 3 (rowK (-256) (-256) 512 (ptsS rr.flatten) (512 * 512)).length ((rowK (-256) (-256) 512 (ptsS rr.flatten) (512 * 512)).flatMap s3)] := by
  refine dcalls_go (N := 47) 0 (by kernel_rfl) Try.func35 rfl rfl rfl (by simp only [fr0, Nat.zero_add, Nat.reduceAdd]; exact rfl) rfl fun s0 hs0 => ?_
  refine dwp_lenm (t := 0) rfl fun hl0 hL0 => ?_
  refine zae ?_
  refine zad ?_
  refine zab rfl rfl rfl (zac (.inr rfl) (ev1 rfl)) ?_
  refine zaf ?_
  refine zae ?_
  refine dwp_holes 1 (by simp only [holes, List.cons_append, List.nil_append]; exact rfl) ?_
  refine zad ?_
  refine zab rfl rfl rfl (op_build (ps := [(0, .const (.int .i64 (-256))), (1, .const (.int .i64 (-256))), (2, .const (.int .i64 255)), (3, .const (.int .i64 255))]) rfl fl53 zr53 (vc (ev1 rfl) (vc (ev1 rfl) (vc (ev1 rfl) (vc (ev1 rfl) vn)))) rfl rfl) ?_
  refine walk_w rfl rfl rfl (op_alloc 0 rfl zr53 rfl) (by simp only [upd, zaa, za]; exact rfl) ?_
  refine walk_s rfl rfl (op_stwa rfl tb53 (ev1 rfl) (ev1 rfl) rfl rfl rfl rfl) (by simp only [upd, zaa, za]; exact rfl) ?_
  refine zaf ?_
  refine zae ?_
  refine dwp_holes 2 (by simp only [holes, List.cons_append, List.nil_append]; exact rfl) ?_
  refine zad ?_
  refine zab rfl rfl rfl (op_ldw rfl tb53 (ev1 rfl) rfl rfl) ?_
  refine walk_w rfl rfl rfl (dop_call [] [] [1, 2] rfl (ev1 rfl) (ec (ev1 rfl) en) rfl rfl (blb_d) rfl rfl rfl (by exact (wrc (by first | exact rfl | exact sb_arx (fun _ => rfl) | exact sb_arxr (nlL_flatR (fun _ => rfl) _) | exact sb_arxg (fun _ => rfl) | exact sb_arxs (fun _ => rfl)) (wrc rfl rfl))) rfl rfl) (by simp only [upd, zaa, za]; exact rfl) ?_
  refine zab rfl rfl rfl (zac (.inr rfl) (ev1 rfl)) ?_
  refine zaf ?_
  refine zae ?_
  refine zae ?_
  refine zad ?_
  refine zab rfl rfl rfl (zac (.inl rfl) (ev1 rfl)) ?_
  refine zab rfl rfl rfl (op_lenm rfl sl51 (ev1 rfl)) ?_
  refine zab rfl rfl rfl (zac (.inl rfl) (ev1 rfl)) ?_
  refine zaf ?_
  refine dwp_block ?_
  refine dwp_loopS ⟨hs0, rfl⟩ (α := Nat) (fun i => [(15, .val (.int .i64 (i : Int)))]) [(3, _), (4, _), (13, _), (14, _)] (fun i => [(2, .fam (fmF (-256) (-256) 512 512 (ptsS (rr.take i).flatten)))]) [_, _, .hole] (fun i => i ≤ rr.length) (fun i => rr.length - i) 0 [0, 1, 2] (Nat.zero_le _) rfl ⟨rfl, rfl, rfl, rfl, trivial⟩ ⟨rfl, trivial⟩ ⟨rfl, arxg_fits rfl rfl (fun _ => rfl), rfl, trivial⟩ ?_
  intro i hx
  simp only [upd, zaa, za, List.cons_append, List.nil_append]
  have hi0 := hx
  refine zae ?_
  refine zad ?_
  refine zab rfl rfl rfl (op_lss rfl (ev1 rfl) (ev1 rfl)) ?_
  refine zaf ?_
  refine zae ?_
  refine dwp_cond rfl (fun c1 => ?_) (fun c1 => ?_)
  · try simp only [yg, ya, beq_iff_eq, bne_iff_ne, yb, yc, yf, ye, yh, yi, yd, ne_eq, yj, Int.not_lt, Int.not_le] at c1
    refine dwp_skip ?_
    refine zae ?_
    refine dwp_block ?_
    refine zae ?_
    have hi : i < rr.length := by omega
    have hci := allC_mem hc (List.getElem_mem hi)
    have hfa := flat_le rr (i + 1)
    rw [flat_add hi, List.length_append] at hfa
    refine zad ?_
    refine zab rfl rfl rfl (op_ixm (i) rfl sl51 (ev1 rfl) (ev1 rfl) (fun _ => rfl) (flat1_at (by omega))) ?_
    refine zab rfl rfl rfl (op_lddm rfl tb32 (ev1 rfl) rfl) ?_
    refine zab rfl rfl rfl (zac (.inr rfl) (ev1 rfl)) ?_
    refine zaf ?_
    refine zae ?_
    refine zad ?_
    refine zab rfl rfl rfl (zac (.inl rfl) (ev1 rfl)) ?_
    refine zab rfl rfl rfl (op_len rfl sl32 (ev1 rfl)) ?_
    refine zab rfl rfl rfl (zac (.inl rfl) (ev1 rfl)) ?_
    refine zaf ?_
    refine dwp_block ?_
    refine dwp_loopS ⟨hs0, rfl⟩ (α := Nat) (fun j => [(21, .val (.int .i64 (j : Int)))]) [(3, _), (4, _), (13, _), (14, _), (15, _), (19, _), (20, _)] (fun j => [(2, .fam (fmF (-256) (-256) 512 512 (ptsS (rr.take i).flatten ++ ptsS (rr[i].take j))))]) [_, _, .hole] (fun j => j ≤ rr[i].length) (fun j => rr[i].length - j) 0 [0, 1, 2] (Nat.zero_le _) rfl ⟨rfl, rfl, rfl, rfl, rfl, rfl, rfl, trivial⟩ ⟨rfl, trivial⟩ ⟨rfl, arxg_fits rfl rfl (fun _ => rfl), (by rw [List.take_zero]; unfold ptsS; rw [List.flatMap_nil, List.append_nil]; rfl), trivial⟩ ?_
    intro j hx
    simp only [upd, zaa, za, List.cons_append, List.nil_append]
    have hj0 := hx
    refine zae ?_
    refine zad ?_
    refine zab rfl rfl rfl (op_lss rfl (ev1 rfl) (ev1 rfl)) ?_
    refine zaf ?_
    refine zae ?_
    refine dwp_cond rfl (fun c2 => ?_) (fun c2 => ?_)
    · try simp only [yg, ya, beq_iff_eq, bne_iff_ne, yb, yc, yf, ye, yh, yi, yd, ne_eq, yj, Int.not_lt, Int.not_le] at c2
      refine dwp_skip ?_
      refine zae ?_
      refine dwp_block ?_
      refine zae ?_
      have hj : j < rr[i].length := by omega
      have hvj := hci.1 _ (List.getElem_mem hj)
      have hrj := hvj.1
      unfold rchS at hrj
      have hwd : (rr[i][j].wd : Int) = rr[i][j].t - rr[i][j].f + 1 := by have := hvj.2; unfold Sp.wd; omega
      refine dwp_holes 1 (by simp only [holes, List.cons_append, List.nil_append]; exact rfl) ?_
      refine zad ?_
      refine zab rfl rfl rfl (op_ixsr (j := j) rfl sl32 (ev1 rfl) (ev1 rfl) (fun _ => rfl) (by decide) (by omega) (by omega)) ?_
      refine zab rfl rfl rfl (op_ldwd rfl tb40 (ev1 rfl) rfl) ?_
      refine walk_w rfl rfl rfl (op_alloc 3 rfl zr40 rfl) (by simp only [upd, zaa, za]; exact rfl) ?_
      refine walk_s rfl rfl (op_stwa rfl tb40 (ev1 rfl) (ev1 rfl) rfl rfl rfl rfl) (by simp only [upd, zaa, za]; exact rfl) ?_
      refine zaf ?_
      refine zae ?_
      refine zad ?_
      refine zab rfl rfl rfl (op_fa rfl fo40_1 (ev1 rfl)) ?_
      refine zab rfl rfl rfl (op_ldo rfl tb3 (ev1 rfl) rfl rfl) ?_
      refine zab rfl rfl rfl (zac (.inr rfl) (ev1 rfl)) ?_
      refine zaf ?_
      refine dwp_block ?_
      refine dwp_loopS ⟨hs0, rfl⟩ (α := Nat) (fun k => [(9, .val (.int .i64 (rr[i][j].f + (k : Int))))]) [(3, _), (4, _), (8, _), (13, _), (14, _), (15, _), (19, _), (20, _), (21, _)] (fun k => [(2, .fam (fmF (-256) (-256) 512 512 (ptsS (rr.take i).flatten ++ ptsS (rr[i].take j) ++ rr[i][j].pts.take k)))]) [_, _, .hole, _] (fun k => k ≤ rr[i][j].wd) (fun k => rr[i][j].wd - k) 0 [0, 1, 2, 3] (Nat.zero_le _) rfl ⟨rfl, rfl, rfl, rfl, rfl, rfl, rfl, rfl, rfl, trivial⟩ ⟨congrArg (fun z => some (D.val (.int .i64 z))) (by first | rfl | omega), trivial⟩ ⟨rfl, arxg_fits rfl rfl (fun _ => rfl), (by rw [List.take_zero, List.append_nil]; rfl), rfl, trivial⟩ ?_
      intro k hx
      simp only [upd, zaa, za, List.cons_append, List.nil_append]
      have hk0 := hx
      refine zae ?_
      refine zae ?_
      refine zad ?_
      refine zab rfl rfl rfl (zac (.inl rfl) (ev1 rfl)) ?_
      refine zab rfl rfl rfl (op_fa rfl fo40_2 (ev1 rfl)) ?_
      refine zab rfl rfl rfl (op_ldo rfl tb3 (ev1 rfl) rfl rfl) ?_
      refine zab rfl rfl rfl (op_leq rfl (ev1 rfl) (ev1 rfl)) ?_
      refine zaf ?_
      refine dwp_cond rfl (fun c3 => ?_) (fun c3 => ?_)
      · try simp only [yg, ya, beq_iff_eq, bne_iff_ne, yb, yc, yf, ye, yh, yi, yd, ne_eq, yj, Int.not_lt, Int.not_le] at c3
        refine dwp_skip ?_
        refine zae ?_
        refine dwp_block ?_
        have hk : k < rr[i][j].wd := by omega
        obtain ⟨jy, hjy⟩ : ∃ jy : Nat, (jy : Int) = rr[i][j].y + 256 := ⟨(rr[i][j].y + 256).toNat, by omega⟩
        obtain ⟨jx, hjx⟩ : ∃ jx : Nat, (jx : Int) = rr[i][j].f + (k : Int) + 256 := ⟨(rr[i][j].f + (k : Int) + 256).toNat, by omega⟩
        have hjy2 : jy < 512 := by omega
        have hjx2 : jx < 512 := by omega
        have hpt : (⟨rr[i][j].f + (k : Int), rr[i][j].y⟩ : P2) = ⟨-256 + (jx : Int), -256 + (jy : Int)⟩ := by congr 1 <;> omega
        refine zad ?_
        refine zab rfl rfl rfl (zac (.inl rfl) (ev1 rfl)) ?_
        refine zab rfl rfl rfl (op_fa rfl fo40_0 (ev1 rfl)) ?_
        refine zab rfl rfl rfl (op_ldo rfl tb3 (ev1 rfl) rfl rfl) ?_
        refine zab rfl rfl rfl (op_add' rfl (ev1 rfl) (ev1 rfl) (fun _ => IntWalk.i64_in _ (by omega))) ?_
        refine zab rfl rfl rfl (op_ixx (jy) rfl sl78 (ev1 rfl) (ev1 rfl) rfl (fun _ => by omega) (fun _ => by omega)) ?_
        refine zab rfl rfl rfl (op_ldx rfl tb80 (ev1 rfl) rfl (names_rng hjy2)) ?_
        refine zab rfl rfl rfl (zac (.inl rfl) (ev1 rfl)) ?_
        refine zab rfl rfl rfl (op_add' rfl (ev1 rfl) (ev1 rfl) (fun _ => IntWalk.i64_in _ (by omega))) ?_
        refine zab rfl rfl rfl (op_ixf (jx) rfl sl80 (ev1 rfl) (ev1 rfl) rfl (fmF_at hjy2) (fun _ => by omega) (fun _ => by omega)) ?_
        refine walk_s rfl rfl (op_stfe (true) rfl tb4 (ev1 rfl) (ev1 rfl) rfl (fmF_at hjy2) rfl (fun _ => rfl) (by rw [rowN_len]; exact hjx2) rfl) (by simp only [upd, zaa, za]; exact rfl) ?_
        refine zaf ?_
        refine zad ?_
        refine zab rfl rfl rfl (zac (.inl rfl) (ev1 rfl)) ?_
        refine zab rfl rfl rfl (op_add' rfl (ev1 rfl) (ev1 rfl) (fun _ => IntWalk.i64_in _ (by omega))) ?_
        refine zab rfl rfl rfl (zac (.inr rfl) (ev1 rfl)) ?_
        refine zaf ?_
        refine ⟨k + 1, [0, 1, 2, 3], by omega, by simp only []; omega, rfl, ⟨congrArg (fun z => some (D.val (.int .i64 z))) (by first | rfl | omega), rfl, rfl, rfl, rfl, rfl, rfl, rfl, rfl, rfl, trivial⟩, ⟨rfl, arxg_fits rfl rfl (fun _ => rfl), (by rw [pts_add hk, ← List.append_assoc, hpt, ← fmF_add hjy2 hjx2]; rfl), rfl, trivial⟩⟩
      · try simp only [yg, ya, beq_iff_eq, bne_iff_ne, yb, yc, yf, ye, yh, yi, yd, ne_eq, yj, Int.not_lt, Int.not_le] at c3
        refine dwp_exit ?_
        refine zad ?_
        refine zab rfl rfl rfl (op_add' rfl (ev1 rfl) (ev1 rfl) (fun _ => IntWalk.i64_in _ (by omega))) ?_
        refine zab rfl rfl rfl (zac (.inl rfl) (ev1 rfl)) ?_
        refine zaf ?_
        obtain rfl : k = rr[i][j].wd := by omega
        refine ⟨j + 1, [0, 1, 2], by omega, by simp only []; omega, rfl, ⟨rfl, rfl, rfl, rfl, rfl, rfl, rfl, rfl, trivial⟩, ⟨rfl, arxg_fits rfl rfl (fun _ => rfl), (by rw [ptsS_add hj, ← List.append_assoc, show rr[i][j].pts.take rr[i][j].wd = rr[i][j].pts from List.take_of_length_le (by rw [pts_wd]; exact Nat.le_refl _)]; rfl), trivial⟩⟩
    · try simp only [yg, ya, beq_iff_eq, bne_iff_ne, yb, yc, yf, ye, yh, yi, yd, ne_eq, yj, Int.not_lt, Int.not_le] at c2
      refine dwp_exit ?_
      refine zad ?_
      refine zab rfl rfl rfl (op_add' rfl (ev1 rfl) (ev1 rfl) (fun _ => IntWalk.i64_in _ (by omega))) ?_
      refine zab rfl rfl rfl (zac (.inl rfl) (ev1 rfl)) ?_
      refine zaf ?_
      obtain rfl : j = rr[i].length := by omega
      refine ⟨i + 1, [0, 1, 2], by omega, by simp only []; omega, rfl, ⟨rfl, rfl, rfl, rfl, rfl, trivial⟩, ⟨rfl, arxg_fits rfl rfl (fun _ => rfl), (by rw [flat_add hi, ptsS_app, take_all (Nat.le_refl _)]; rfl), trivial⟩⟩
  · try simp only [yg, ya, beq_iff_eq, bne_iff_ne, yb, yc, yf, ye, yh, yi, yd, ne_eq, yj, Int.not_lt, Int.not_le] at c1
    refine dwp_exit ?_
    refine zae ?_
    rw [show (rr.take i).flatten = rr.flatten by rw [take_all (by omega)]]
    refine dwp_holes 1 (by simp only [holes, List.cons_append, List.nil_append]; exact rfl) ?_
    refine zad ?_
    refine zab rfl rfl rfl (op_ldw rfl tb53 (ev1 rfl) rfl rfl) ?_
    refine zab rfl rfl rfl (zac (.inl rfl) (ev1 rfl)) ?_
    refine walk_w rfl rfl rfl (dop_call [1, 2] [] [3] rfl (ev1 rfl) (ec (ev1 rfl) (ec (ev1 rfl) en)) rfl (by exact mfits _ _ ⟨(by first | exact rfl | exact arx_fits rfl rfl (vwL_flat (fun _ => rfl) _) | exact arxr_fits rfl rfl (nlL_flatR (fun _ => rfl) _) | exact arxg_fits rfl rfl (fun _ => rfl) | exact arxs_fits rfl rfl (fun _ => rfl)), rfl, trivial⟩) (rrb_d _) rfl rfl rfl (by exact (wrc (by first | exact rfl | exact sb_arx (fun _ => rfl) | exact sb_arxr (nlL_flatR (fun _ => rfl) _) | exact sb_arxg (fun _ => rfl) | exact sb_arxs (fun _ => rfl)) (wrc rfl (wrc rfl rfl)))) rfl rfl) (by simp only [upd, zaa, za]; exact rfl) ?_
    refine zab rfl rfl rfl (zac (.inr rfl) (ev1 rfl)) ?_
    refine zaf ?_
    refine dwp_ret ?_
    refine kend [3] (rs1 rfl (rv_t rfl)) rfl rfl ?_ ⟨?_, trivial⟩
    rfl
    all_goals exact rfl
theorem runion_d (rr : List (List Sp)) (hc : allC rr = true) (hn : rr.flatten.length ≤ 1000000) : DFun Try.prog 35 [.slm 1 (rr).length ((rr).flatMap fun l => [.slf 3 (l).length ((l).flatMap s3)])] [] (.slf 3 ((uniL rr)).length (((uniL rr)).flatMap s3)) [] := by
  have h := freeze (runion_o rr hc hn) rfl
  rw [ub_row hc] at h
  exact h
noncomputable def rwrA : Code := rfA (pth [1, 1, 1, 1, 0, 1, 0, 0, 1, 1, 0, 0, 1, 1, 1, 1, 1, 1, 1, 1, 1, 1, 1, 1, 0, 1, 0] (bodyOf Try.f5))
noncomputable def rwrB : Code := rfB (pth [1, 1, 1, 1, 0, 1, 0, 0, 1, 1, 0, 0, 1, 1, 1, 1, 1, 1, 1, 1, 1, 1, 1, 1, 0, 1, 0] (bodyOf Try.f5))
set_option maxRecDepth 4000 in
set_option maxHeartbeats 1000000 in
theorem rwRound (l : List Sp) (b : Bool) (p : P2) (P : List P2) (hP : P.length ≤ 1000000000) (hb : b = decide (chkS l)) (hm : p ∈ ptsL l) : DRound Try.prog 0 [.val (.agg #[.int .i64 p.x, .int .i64 p.y])] [.lp 180 [(6, .loc 1 0), (11, .loc 2 0), (12, .loc 3 0), (18, .loc 4 0)] #[89] rwrA rwrB .ready none, .flat 4 [.bool false], .mix 32 [.slf 3 (l).length ((l).flatMap s3)], .flat 4 [.bool b], .flat 3 [.int .i64 ((P).length : Int)]] true [.lp 180 [(6, .loc 1 0), (11, .loc 2 0), (12, .loc 3 0), (18, .loc 4 0)] #[89] rwrA rwrB .ready none, .flat 4 [.bool false], .mix 32 [.slf 3 (l).length ((l).flatMap s3)], .flat 4 [.bool b], .flat 3 [.int .i64 ((P ++ [p]).length : Int)]] := by
  have hc : chkS l := by
    by_cases h : chkS l
    · exact h
    · rw [ptsL_no h] at hm; cases hm
  have hbt : b = true := by rw [hb]; exact decide_eq_true hc
  have hrh : rhasB l p = true := rhasB_iff.2 (ptsS_mem.1 (by rw [ptsL_ok hc] at hm; exact hm))
  refine dround_go 5 rfl rfl (by simp) rfl rfl fun s0 hs0 => ?_
  refine dwp_holes 1 (by simp only [holes, List.cons_append, List.nil_append]; exact rfl) ?_
  refine zad ?_
  refine walk_w rfl rfl rfl (op_alloc 5 rfl zr25 rfl) (by simp only [upd, zaa, za]; exact rfl) ?_
  refine walk_s rfl rfl (op_stwa rfl tb25 (ev1 rfl) (ev1 rfl) rfl rfl rfl rfl) (by simp only [upd, zaa, za]; exact rfl) ?_
  refine zaf ?_
  refine ⟨rfl, ?_⟩
  simp only [zaa, za]
  refine dwp_block ?_
  refine zae ?_
  refine zad ?_
  refine zab rfl rfl rfl (op_ldo rfl tb3 (ev1 rfl) rfl rfl) ?_
  refine zab rfl rfl rfl (op_add' rfl (ev1 rfl) (ev1 rfl) (fun _ => IntWalk.i64_in _ (by omega))) ?_
  refine walk_s rfl rfl (op_stwi rfl tb3 (ev1 rfl) (ev1 rfl) rfl) (by simp only [upd, zaa, za]; exact rfl) ?_
  refine zaf ?_
  refine zae ?_
  refine zad ?_
  refine zab rfl rfl rfl (op_ldo rfl tb4 (ev1 rfl) rfl rfl) ?_
  refine zab rfl rfl rfl (op_not rfl (ev1 rfl)) ?_
  refine zab rfl rfl rfl (zac (.inl rfl) (ev1 rfl)) ?_
  refine walk_gr (gd_f rfl rfl rfl) rfl rfl rfl (op_ldm rfl tb32 (ev1 rfl) rfl rfl) ?_
  refine walk_gr (gd_f rfl rfl rfl) rfl rfl rfl (op_ldw rfl tb25 (ev1 rfl) rfl rfl) ?_
  refine walk_gr (gd_f rfl rfl rfl) rfl rfl rfl (dop_call [] [] [] rfl (ev1 rfl) (ec (ev2 rfl) (ec (ev2 rfl) en)) rfl rfl (rhas_d l p) rfl rfl rfl rfl rfl rfl) ?_
  refine walk_gr (gd_f rfl rfl rfl) rfl rfl rfl (op_not rfl (ev2 rfl)) ?_
  refine zab rfl rfl rfl (op_or rfl (ev1 rfl) (ev3 rfl id)) ?_
  refine zaf ?_
  refine dwp_if_f rfl (by rw [hbt, hrh]; rfl) ?_
  refine dwp_skip ?_
  refine ⟨by first | rfl | assumption | simp_all, rfl, [0, 1, 2, 3, 4], rfl, ⟨rfl, rfl, rfl, rfl, by rw [List.length_append]; rfl, trivial⟩⟩
set_option maxRecDepth 4000 in
set_option maxHeartbeats 1000000 in
theorem rw_span (l : List Sp) (b : Bool) (hb : b = decide (chkS l)) (hl : l.length ≤ 1000000) (s : Sp) (hs : rchS s ∧ s.f ≤ s.t) (P : List P2) (hP : P.length + s.wd ≤ 1000000000) (hm : ∀ k : Nat, k < s.wd → (⟨s.f + (k : Int), s.y⟩ : P2) ∈ ptsL l) : DRound Try.prog 0 [.val (.agg (s3 s).toArray)] [.lp 23 [(2, .loc 1 0)] #[7] alrA alrB .ready none, .mix 27 [.yld 2], .lp 180 [(6, .loc 3 0), (11, .loc 4 0), (12, .loc 5 0), (18, .loc 6 0)] #[89] rwrA rwrB .ready none, .flat 4 [.bool false], .mix 32 [.slf 3 (l).length ((l).flatMap s3)], .flat 4 [.bool b], .flat 3 [.int .i64 ((P).length : Int)]] true [.lp 23 [(2, .loc 1 0)] #[7] alrA alrB .ready none, .mix 27 [.yld 2], .lp 180 [(6, .loc 3 0), (11, .loc 4 0), (12, .loc 5 0), (18, .loc 6 0)] #[89] rwrA rwrB .ready none, .flat 4 [.bool false], .mix 32 [.slf 3 (l).length ((l).flatMap s3)], .flat 4 [.bool b], .flat 3 [.int .i64 (((P ++ s.pts)).length : Int)]] := by
  obtain ⟨hr, hft⟩ := hs
  have hr2 := hr
  unfold rchS at hr2
  have hwd : (s.wd : Int) = s.t - s.f + 1 := by unfold Sp.wd; omega
  have hpw := pts_wd s
  refine dround_go 7 rfl rfl (by simp) rfl rfl fun s0 hs0 => ?_
  refine dwp_holes 1 (by simp only [holes, List.cons_append, List.nil_append]; exact rfl) ?_
  refine zad ?_
  refine walk_w rfl rfl rfl (op_alloc 7 rfl zr40 rfl) (by simp only [upd, zaa, za]; exact rfl) ?_
  refine walk_s rfl rfl (op_stwa rfl tb40 (ev1 rfl) (ev1 rfl) rfl rfl rfl rfl) (by simp only [upd, zaa, za]; exact rfl) ?_
  refine zaf ?_
  refine ⟨rfl, ?_⟩
  simp only [zaa, za]
  refine dwp_block ?_
  refine zae ?_
  refine zad ?_
  refine zab rfl rfl rfl (op_fa rfl fo40_1 (ev1 rfl)) ?_
  refine zab rfl rfl rfl (op_ldo rfl tb3 (ev1 rfl) rfl rfl) ?_
  refine zab rfl rfl rfl (zac (.inr rfl) (ev1 rfl)) ?_
  refine zaf ?_
  refine dwp_block ?_
  refine dwp_loopS ⟨hs0, rfl⟩ (α := Nat) (fun k => [(4, .val (.int .i64 (s.f + (k : Int))))]) [(2, _), (3, _)] (fun k => [(6, .flat 3 [.int .i64 (((P ++ s.pts.take k)).length : Int)])]) [_, _, _, _, _, _, .hole, _] (fun k => k ≤ s.wd) (fun k => s.wd - k) 0 [0, 1, 2, 3, 4, 5, 6, 7] (Nat.zero_le _) rfl ⟨rfl, rfl, trivial⟩ ⟨congrArg (fun z => some (D.val (.int .i64 z))) (by first | rfl | omega), trivial⟩ ⟨rfl, rfl, rfl, rfl, rfl, rfl, by rw [List.take_zero, List.append_nil]; rfl, rfl, trivial⟩ ?_
  intro k hx
  simp only [upd, zaa, za, List.cons_append, List.nil_append]
  have hk0 := hx
  refine zae ?_
  refine zae ?_
  refine zad ?_
  refine zab rfl rfl rfl (zac (.inl rfl) (ev1 rfl)) ?_
  refine zab rfl rfl rfl (op_fa rfl fo40_2 (ev1 rfl)) ?_
  refine zab rfl rfl rfl (op_ldo rfl tb3 (ev1 rfl) rfl rfl) ?_
  refine zab rfl rfl rfl (op_leq rfl (ev1 rfl) (ev1 rfl)) ?_
  refine zaf ?_
  refine dwp_cond rfl (fun c1 => ?_) (fun c1 => ?_)
  · try simp only [yg, ya, beq_iff_eq, bne_iff_ne, yb, yc, yf, ye, yh, yi, yd, ne_eq, yj, Int.not_lt, Int.not_le] at c1
    refine dwp_skip ?_
    refine zae ?_
    refine dwp_block ?_
    refine zae ?_
    have hk : k < s.wd := by omega
    have hq := hm k hk
    refine zad ?_
    refine zab rfl rfl rfl (op_ldm rfl tb27 (ev1 rfl) rfl rfl) ?_
    refine zab rfl rfl rfl (zac (.inl rfl) (ev1 rfl)) ?_
    refine zab rfl rfl rfl (op_fa rfl fo40_0 (ev1 rfl)) ?_
    refine zab rfl rfl rfl (op_ldo rfl tb3 (ev1 rfl) rfl rfl) ?_
    refine zab rfl rfl rfl (op_build (ps := [(0, .tmp 17), (1, .tmp 19)]) rfl fl25 zr25 (vc (ev1 rfl) (vc (ev1 rfl) vn)) rfl rfl) ?_
    refine walk_w rfl rfl rfl (op_y (i := 0) [2, 3, 4, 5, 6] [] [] rfl (ev1 rfl) (ec (ev1 rfl) en) rfl rfl rfl (rwRound l b ⟨s.f + (k : Int), s.y⟩ (P ++ s.pts.take k) (by have := List.length_take_le k s.pts; rw [List.length_append]; omega) hb (hq)) rfl rfl rfl rfl rfl) (by simp only [upd, zaa, za]; exact rfl) ?_
    refine zab rfl rfl rfl (op_not rfl (ev1 rfl)) ?_
    refine zaf ?_
    refine dwp_if_f rfl (rfl) ?_
    refine dwp_skip ?_
    refine zad ?_
    refine zab rfl rfl rfl (zac (.inl rfl) (ev1 rfl)) ?_
    refine zab rfl rfl rfl (op_add' rfl (ev1 rfl) (ev1 rfl) (fun _ => IntWalk.i64_in _ (by omega))) ?_
    refine zab rfl rfl rfl (zac (.inr rfl) (ev1 rfl)) ?_
    refine zaf ?_
    refine ⟨k + 1, [0, 1, 2, 3, 4, 5, 6, 7], by omega, by simp only []; omega, rfl, ⟨congrArg (fun z => some (D.val (.int .i64 z))) (by first | rfl | omega), rfl, rfl, trivial⟩, ⟨rfl, rfl, rfl, rfl, rfl, rfl, by rw [pts_add hk, ← List.append_assoc]; rfl, rfl, trivial⟩⟩
  · try simp only [yg, ya, beq_iff_eq, bne_iff_ne, yb, yc, yf, ye, yh, yi, yd, ne_eq, yj, Int.not_lt, Int.not_le] at c1
    refine dwp_exit ?_
    obtain rfl : k = s.wd := by omega
    rw [show s.pts.take s.wd = s.pts from List.take_of_length_le (by omega)]
    refine ⟨by first | rfl | assumption | simp_all, rfl, [0, 1, 2, 3, 4, 5, 6], rfl, ⟨rfl, rfl, rfl, rfl, rfl, rfl, rfl, trivial⟩⟩
set_option maxRecDepth 4000 in
set_option maxHeartbeats 1000000 in
theorem rw_told (l : List Sp) (b : Bool) (hb : b = decide (chkS l)) (hl : l.length ≤ 1000000) (hl0 : l.length ≤ 9223372036854775807) (hc : chkS l) : DFun Try.prog 68 [.yld 0, .loc 7 0] [.lp 23 [(2, .loc 1 0)] #[7] alrA alrB .ready none, .mix 27 [.yld 2], .lp 180 [(6, .loc 3 0), (11, .loc 4 0), (12, .loc 5 0), (18, .loc 6 0)] #[89] rwrA rwrB .ready none, .flat 4 [.bool false], .mix 32 [.slf 3 (l).length ((l).flatMap s3)], .flat 4 [.bool b], .flat 3 [.int .i64 ((([] : List P2)).length : Int)], .mix 32 [.slf 3 (l).length ((l).flatMap s3)]] (.tup []) [.lp 23 [(2, .loc 1 0)] #[7] alrA alrB .ready none, .mix 27 [.yld 2], .lp 180 [(6, .loc 3 0), (11, .loc 4 0), (12, .loc 5 0), (18, .loc 6 0)] #[89] rwrA rwrB .ready none, .flat 4 [.bool false], .mix 32 [.slf 3 (l).length ((l).flatMap s3)], .flat 4 [.bool b], .flat 3 [.int .i64 (((ptsS l)).length : Int)], .mix 32 [.slf 3 (l).length ((l).flatMap s3)]] := by
  refine dcalls_go (N := 19) 8 (by kernel_rfl) Try.func68 rfl rfl rfl (by simp only [fr0, Nat.zero_add, Nat.reduceAdd]; exact rfl) rfl fun s0 hs0 => ?_
  refine zae ?_
  refine zae ?_
  refine zad ?_
  refine zab rfl rfl rfl (op_ldm rfl tb32 (ev1 rfl) rfl rfl) ?_
  refine zab rfl rfl rfl (dop_call [] [] [] rfl (ev1 rfl) (ec (ev1 rfl) en) rfl rfl (check_d l) rfl rfl rfl rfl rfl rfl) ?_
  refine zab rfl rfl rfl (op_neq rfl (ev1 rfl) (ev1 rfl)) ?_
  refine zaf ?_
  refine dwp_if_f rfl (by rw [chkE_ok hc]; rfl) ?_
  refine dwp_skip ?_
  refine zae ?_
  refine zad ?_
  refine zab rfl rfl rfl (op_ldm rfl tb32 (ev1 rfl) rfl rfl) ?_
  refine zab rfl rfl rfl (op_len rfl sl32 (ev1 rfl)) ?_
  refine zab rfl rfl rfl (zac (.inl rfl) (ev1 rfl)) ?_
  refine zaf ?_
  refine dwp_block ?_
  refine dwp_loopS ⟨hs0, rfl⟩ (α := Nat) (fun i => [(10, .val (.int .i64 (i : Int)))]) [(0, _), (8, _), (9, _)] (fun i => [(6, .flat 3 [.int .i64 (((ptsS (l.take i))).length : Int)])]) [_, _, _, _, _, _, .hole, _] (fun i => i ≤ l.length) (fun i => l.length - i) 0 [0, 1, 2, 3, 4, 5, 6, 7] (Nat.zero_le _) rfl ⟨rfl, rfl, rfl, trivial⟩ ⟨rfl, trivial⟩ ⟨rfl, rfl, rfl, rfl, rfl, rfl, rfl, rfl, trivial⟩ ?_
  intro i hx
  simp only [upd, zaa, za, List.cons_append, List.nil_append]
  have hi0 := hx
  refine zae ?_
  refine zad ?_
  refine zab rfl rfl rfl (op_lss rfl (ev1 rfl) (ev1 rfl)) ?_
  refine zaf ?_
  refine zae ?_
  refine dwp_cond rfl (fun c2 => ?_) (fun c2 => ?_)
  · try simp only [yg, ya, beq_iff_eq, bne_iff_ne, yb, yc, yf, ye, yh, yi, yd, ne_eq, yj, Int.not_lt, Int.not_le] at c2
    refine dwp_skip ?_
    refine zae ?_
    refine dwp_block ?_
    refine zae ?_
    have hi : i < l.length := by omega
    refine dwp_holes 1 (by simp only [holes, List.cons_append, List.nil_append]; exact rfl) ?_
    refine zad ?_
    refine zab rfl rfl rfl (op_ixsr (j := i) rfl sl32 (ev1 rfl) (ev1 rfl) (fun _ => rfl) (by decide) (by omega) (by omega)) ?_
    refine zab rfl rfl rfl (op_ldwd rfl tb40 (ev1 rfl) rfl) ?_
    refine walk_w rfl rfl rfl (op_alloc 8 rfl zr40 rfl) (by simp only [upd, zaa, za]; exact rfl) ?_
    refine walk_s rfl rfl (op_stwa rfl tb40 (ev1 rfl) (ev1 rfl) rfl rfl rfl rfl) (by simp only [upd, zaa, za]; exact rfl) ?_
    refine zaf ?_
    refine zae ?_
    refine zad ?_
    refine zab rfl rfl rfl (zac (.inl rfl) (ev1 rfl)) ?_
    refine zab rfl rfl rfl (op_ldw rfl tb40 (ev1 rfl) rfl rfl) ?_
    refine walk_w rfl rfl rfl (op_y (i := 0) [0, 1, 2, 3, 4, 5, 6] [] [] rfl (ev1 rfl) (ec (ev1 rfl) en) rfl rfl rfl (rw_span l b hb hl l[i] (hc.1 _ (List.getElem_mem hi)) _ (by have := cnt_le hc (i + 1); rw [cnt_add hi] at this; rw [ptsS_len]; omega) (fun k hk => by rw [ptsL_ok hc]; exact pts_mem2 hi hk)) rfl rfl rfl rfl rfl) (by simp only [upd, zaa, za]; exact rfl) ?_
    refine zab rfl rfl rfl (op_not rfl (ev1 rfl)) ?_
    refine zaf ?_
    refine dwp_if_f rfl (rfl) ?_
    refine dwp_skip ?_
    refine zad ?_
    refine zab rfl rfl rfl (op_add' rfl (ev1 rfl) (ev1 rfl) (fun _ => IntWalk.i64_in _ (by omega))) ?_
    refine zab rfl rfl rfl (zac (.inl rfl) (ev1 rfl)) ?_
    refine zaf ?_
    refine ⟨i + 1, [0, 1, 2, 3, 4, 5, 6, 7], by omega, by simp only []; omega, rfl, ⟨rfl, rfl, rfl, rfl, trivial⟩, ⟨rfl, rfl, rfl, rfl, rfl, rfl, by rw [ptsS_add hi]; rfl, rfl, trivial⟩⟩
  · try simp only [yg, ya, beq_iff_eq, bne_iff_ne, yb, yc, yf, ye, yh, yi, yd, ne_eq, yj, Int.not_lt, Int.not_le] at c2
    refine dwp_exit ?_
    refine kend [0, 1, 2, 3, 4, 5, 6, 7] (res_none rfl) rfl rfl ?_ ⟨?_, ?_, ?_, ?_, ?_, ?_, ?_, ?_, trivial⟩
    rfl
    all_goals first | exact rfl | exact (by rw [take_all (by omega)]; rfl)
set_option maxRecDepth 4000 in
set_option maxHeartbeats 1000000 in
theorem rw_told_no (l : List Sp) (b : Bool) (hb : b = decide (chkS l)) (hl : l.length ≤ 1000000) (hc : ¬ chkS l) : DFun Try.prog 68 [.yld 0, .loc 7 0] [.lp 23 [(2, .loc 1 0)] #[7] alrA alrB .ready none, .mix 27 [.yld 2], .lp 180 [(6, .loc 3 0), (11, .loc 4 0), (12, .loc 5 0), (18, .loc 6 0)] #[89] rwrA rwrB .ready none, .flat 4 [.bool false], .mix 32 [.slf 3 (l).length ((l).flatMap s3)], .flat 4 [.bool b], .flat 3 [.int .i64 ((([] : List P2)).length : Int)], .mix 32 [.slf 3 (l).length ((l).flatMap s3)]] (.tup []) [.lp 23 [(2, .loc 1 0)] #[7] alrA alrB .ready none, .mix 27 [.yld 2], .lp 180 [(6, .loc 3 0), (11, .loc 4 0), (12, .loc 5 0), (18, .loc 6 0)] #[89] rwrA rwrB .ready none, .flat 4 [.bool false], .mix 32 [.slf 3 (l).length ((l).flatMap s3)], .flat 4 [.bool b], .flat 3 [.int .i64 ((([] : List P2)).length : Int)], .mix 32 [.slf 3 (l).length ((l).flatMap s3)]] := by
  refine dcalls_go (N := 19) 8 (by kernel_rfl) Try.func68 rfl rfl rfl (by simp only [fr0, Nat.zero_add, Nat.reduceAdd]; exact rfl) rfl fun s0 hs0 => ?_
  refine zae ?_
  refine zae ?_
  refine zad ?_
  refine zab rfl rfl rfl (op_ldm rfl tb32 (ev1 rfl) rfl rfl) ?_
  refine zab rfl rfl rfl (dop_call [] [] [] rfl (ev1 rfl) (ec (ev1 rfl) en) rfl rfl (check_d l) rfl rfl rfl rfl rfl rfl) ?_
  refine zab rfl rfl rfl (op_neq rfl (ev1 rfl) (ev1 rfl)) ?_
  refine zaf ?_
  refine dwp_if_t rfl (by rw [chkE_no hc]; rfl) ?_
  refine dwp_ret ?_
  refine kend [0, 1, 2, 3, 4, 5, 6, 7] (res_none rfl) rfl rfl ?_ ⟨rfl, rfl, rfl, rfl, rfl, rfl, rfl, rfl, trivial⟩
  rfl
set_option maxRecDepth 4000 in
set_option maxHeartbeats 1000000 in
theorem rw_all_ok (l : List Sp) (b : Bool) (hb : b = decide (chkS l)) (hl : l.length ≤ 1000000) (hl0 : l.length ≤ 9223372036854775807) (hc : chkS l) : DFun Try.prog 54 [.yld 0, .loc 5 0] [.lp 180 [(6, .loc 1 0), (11, .loc 2 0), (12, .loc 3 0), (18, .loc 4 0)] #[89] rwrA rwrB .ready none, .flat 4 [.bool false], .mix 32 [.slf 3 (l).length ((l).flatMap s3)], .flat 4 [.bool b], .flat 3 [.int .i64 ((([] : List P2)).length : Int)], .mix 32 [.slf 3 (l).length ((l).flatMap s3)]] (.tup []) [.lp 180 [(6, .loc 1 0), (11, .loc 2 0), (12, .loc 3 0), (18, .loc 4 0)] #[89] rwrA rwrB .ready none, .flat 4 [.bool false], .mix 32 [.slf 3 (l).length ((l).flatMap s3)], .flat 4 [.bool b], .flat 3 [.int .i64 (((ptsS l)).length : Int)], .mix 32 [.slf 3 (l).length ((l).flatMap s3)]] := by
  refine dcalls_go (N := 23) 6 (by kernel_rfl) Try.func54 rfl rfl rfl (by simp only [fr0, Nat.zero_add, Nat.reduceAdd]; exact rfl) rfl fun s0 hs0 => ?_
  refine zae ?_
  refine dwp_holes 1 (by simp only [holes, List.cons_append, List.nil_append]; exact rfl) ?_
  refine zad ?_
  refine walk_w rfl rfl rfl (op_boxm 6 rfl (ev1 rfl) (fun s v h => by cases h <;> rfl) rfl) (by simp only [upd, zaa, za]; exact rfl) ?_
  refine zaf ?_
  refine zae ?_
  refine dwp_holes 1 (by simp only [holes, List.cons_append, List.nil_append]; exact rfl) ?_
  refine zad ?_
  refine zab rfl rfl rfl (op_ldm rfl tb32 (ev1 rfl) rfl rfl) ?_
  refine walk_w rfl rfl rfl (dop_call [] [] [7] rfl (ev1 rfl) (ec (ev1 rfl) en) rfl rfl (told_d l) rfl rfl rfl rfl rfl rfl) (by simp only [upd, zaa, za]; exact rfl) ?_
  refine zaf ?_
  refine dwp_block ?_
  refine dwp_hole ?_
  simp only [List.cons_append, List.nil_append]
  refine dwp_rf (FL := [(2, _)]) (st := .ready) (pe := none) [8, 6, 0, 1, 2, 3, 4, 7] [] [] 8 rfl rfl (ev1 rfl) rfl (subF_lk ⟨rfl, trivial⟩) rfl rfl rfl (rw_told l b hb hl hl0 hc) rfl rfl rfl rfl rfl rfl rfl (by simp) (fun e => ?_) (fun c e => ?_)
  · simp only [upd, zaa, za]
    refine kend [0, 1, 2, 3, 4, 5] (res_none rfl) rfl rfl ?_ ⟨rfl, rfl, rfl, rfl, rfl, rfl, trivial⟩
    rfl
  · cases e
set_option maxRecDepth 4000 in
set_option maxHeartbeats 1000000 in
theorem rw_all_no (l : List Sp) (b : Bool) (hb : b = decide (chkS l)) (hl : l.length ≤ 1000000) (hc : ¬ chkS l) : DFun Try.prog 54 [.yld 0, .loc 5 0] [.lp 180 [(6, .loc 1 0), (11, .loc 2 0), (12, .loc 3 0), (18, .loc 4 0)] #[89] rwrA rwrB .ready none, .flat 4 [.bool false], .mix 32 [.slf 3 (l).length ((l).flatMap s3)], .flat 4 [.bool b], .flat 3 [.int .i64 ((([] : List P2)).length : Int)], .mix 32 [.slf 3 (l).length ((l).flatMap s3)]] (.tup []) [.lp 180 [(6, .loc 1 0), (11, .loc 2 0), (12, .loc 3 0), (18, .loc 4 0)] #[89] rwrA rwrB .ready none, .flat 4 [.bool false], .mix 32 [.slf 3 (l).length ((l).flatMap s3)], .flat 4 [.bool b], .flat 3 [.int .i64 ((([] : List P2)).length : Int)], .mix 32 [.slf 3 (l).length ((l).flatMap s3)]] := by
  refine dcalls_go (N := 23) 6 (by kernel_rfl) Try.func54 rfl rfl rfl (by simp only [fr0, Nat.zero_add, Nat.reduceAdd]; exact rfl) rfl fun s0 hs0 => ?_
  refine zae ?_
  refine dwp_holes 1 (by simp only [holes, List.cons_append, List.nil_append]; exact rfl) ?_
  refine zad ?_
  refine walk_w rfl rfl rfl (op_boxm 6 rfl (ev1 rfl) (fun s v h => by cases h <;> rfl) rfl) (by simp only [upd, zaa, za]; exact rfl) ?_
  refine zaf ?_
  refine zae ?_
  refine dwp_holes 1 (by simp only [holes, List.cons_append, List.nil_append]; exact rfl) ?_
  refine zad ?_
  refine zab rfl rfl rfl (op_ldm rfl tb32 (ev1 rfl) rfl rfl) ?_
  refine walk_w rfl rfl rfl (dop_call [] [] [7] rfl (ev1 rfl) (ec (ev1 rfl) en) rfl rfl (told_d l) rfl rfl rfl rfl rfl rfl) (by simp only [upd, zaa, za]; exact rfl) ?_
  refine zaf ?_
  refine dwp_block ?_
  refine dwp_hole ?_
  simp only [List.cons_append, List.nil_append]
  refine dwp_rf (FL := [(2, _)]) (st := .ready) (pe := none) [8, 6, 0, 1, 2, 3, 4, 7] [] [] 8 rfl rfl (ev1 rfl) rfl (subF_lk ⟨rfl, trivial⟩) rfl rfl rfl (rw_told_no l b hb hl hc) rfl rfl rfl rfl rfl rfl rfl (by simp) (fun e => ?_) (fun c e => ?_)
  · simp only [upd, zaa, za]
    refine kend [0, 1, 2, 3, 4, 5] (res_none rfl) rfl rfl ?_ ⟨rfl, rfl, rfl, rfl, rfl, rfl, trivial⟩
    rfl
  · cases e
theorem rw_all (l : List Sp) (b : Bool) (hb : b = decide (chkS l)) (hl : l.length ≤ 1000000) (hl0 : l.length ≤ 9223372036854775807) : DFun Try.prog 54 [.yld 0, .loc 5 0] [.lp 180 [(6, .loc 1 0), (11, .loc 2 0), (12, .loc 3 0), (18, .loc 4 0)] #[89] rwrA rwrB .ready none, .flat 4 [.bool false], .mix 32 [.slf 3 (l).length ((l).flatMap s3)], .flat 4 [.bool b], .flat 3 [.int .i64 ((([] : List P2)).length : Int)], .mix 32 [.slf 3 (l).length ((l).flatMap s3)]] (.tup []) [.lp 180 [(6, .loc 1 0), (11, .loc 2 0), (12, .loc 3 0), (18, .loc 4 0)] #[89] rwrA rwrB .ready none, .flat 4 [.bool false], .mix 32 [.slf 3 (l).length ((l).flatMap s3)], .flat 4 [.bool b], .flat 3 [.int .i64 (((ptsL l)).length : Int)], .mix 32 [.slf 3 (l).length ((l).flatMap s3)]] := by
  by_cases hc : chkS l
  · rw [ptsL_ok hc]; exact rw_all_ok l b hb hl hl0 hc
  · rw [ptsL_no hc]; exact rw_all_no l b hb hl hc
end Go.Proofs.Ytoffbkjhoelghaa
