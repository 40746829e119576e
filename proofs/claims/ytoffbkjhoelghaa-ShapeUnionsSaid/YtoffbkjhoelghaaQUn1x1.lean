/- Values that came in and hold no address (numbers, bools, strings, and structs and arrays of these): their cells, opened; slices of such.  but the kernel's look at the type; Operations, one behind the other; a call by its contract; A region that draws its order: walked once, in the text's order. Conditions: the kernel's look at its edges; Operations: numbers, bools, structs, memory that is read and written. Conditions: what a type is, by the kernel; Operations that make memory, and write it. Conditions: what a type is, by the kernel; Operations on slices: made, cut, grown; tuples; function values; structs. Conditions: what a type is, by the kernel; Ends of calls; structs built; bools and strings compared; least and greatest; slices taken over, and given up. Conditions: what a type is, by the kernel; Functions that are deferred: a body up to there; closures that recover; results in cells; . No condition. -/
import Derived.Test.YtoffbkjhoelghaaQ4
import Derived.Test.YtoffbkjhoelghaaRows
namespace Go.Proofs.Ytoffbkjhoelghaa
set_option linter.unusedVariables false
set_option linter.unusedSimpArgs false
open Go.RowKit Go.Deep
section
variable {H : Type} {enc : TypeId × Value → H} {P : Program} {w : World} {base : Nat} {spare : Nat → Bool} {held : Bool}
/-- a row in memory: each element's cells -/
def rowsAt {α : Type} (w : World) (b off sz : Nat) (en : α → List Value) (l : List α) : Prop :=
  b < w.heap.size ∧ ∀ k (h : k < l.length) j, j < sz → w.cell? ⟨b, off + k * sz + j, none⟩ = (en l[k])[j]?
/-- a slice's place and length, and what it holds -/
def rowV {α : Type} (W : World) (a0 : Option Addr) (len sz : Nat) (en : α → List Value) (l : List α) : Prop := len = l.length ∧ (l = [] ∨ ∃ b off, a0 = some ⟨b, off, none⟩ ∧ rowsAt W b off sz en l)
theorem list_of' {α : Type} (n : Nat) (p : Nat → α → Prop) (h : ∀ i, i < n → ∃ c, p i c) : ∃ l : List α, l.length = n ∧ ∀ i (hi : i < l.length), p i l[i] := by
  induction n with
  | zero => exact ⟨[], rfl, fun i hi => absurd hi (by simp)⟩
  | succ n ih =>
    obtain ⟨l, hl, hp⟩ := ih fun i hi => h i (by omega)
    obtain ⟨c, hc⟩ := h n (by omega)
    refine ⟨l ++ [c], by simp [hl], fun i hi => ?_⟩
    by_cases e : i < l.length
    · rw [List.getElem_append_left e]; exact hp i e
    · have : i = n := by simp [hl] at hi; omega
      subst this
      simp [List.getElem_append_right (show l.length ≤ i by omega), hl, hc]
/-- A slice whose elements hold no address, opened. -/
theorem open_row {α : Type} {t e : TypeId} {ps : List Prim} (f : Nat) (en : α → List Value) (ok : α → Prop) (hP : ∀ cs, fitsP ps cs → ∃ a, ok a ∧ cs = en a) (ht : P.underlying t = some (.slice e)) (hf : flatT P f e = some ps) (hc : P.cellsOf e = ps.length) (hpos : 0 < ps.length)
    {a0 : Option Addr} {len cap : Nat} {d : DataW H} {p : List MemPlace} (h : DataW.Trod enc P w base spare held t (.slice a0 len cap) d p) :
    ∃ l, rowV w a0 len ps.length en l ∧ (∀ a ∈ l, ok a) ∧ len ≤ cap ∧ cap ≤ maxLen ∧ (a0 = none → cap = 0) := by
  obtain ⟨fuel, hfu⟩ := h
  rcases open_slice ht hfu with ⟨hcs, hx⟩ | ⟨a, len', cap', m, n, D, Pl, hcs, _, hl, hm, hmm, hx, hel⟩
  · simp [Value.cells] at hcs
    obtain ⟨rfl, rfl, rfl⟩ := hcs
    exact ⟨[], ⟨rfl, .inl rfl⟩, by simp, Nat.le_refl _, Nat.zero_le _, fun _ => rfl⟩
  · simp [Value.cells] at hcs
    obtain ⟨rfl, rfl, rfl⟩ := hcs
    have hlm : len ≤ m := by rw [hmm]; split <;> omega
    rw [hc] at hel
    obtain ⟨l, hll, hp⟩ := list_of' len (fun i (c : α) => ok c ∧ w.cells? base (a.add (i * ps.length)) ps.length = some (en c)) (by
      intro i hi
      obtain ⟨cs, h1, h2⟩ := hel i (by omega)
      obtain ⟨c, hok, rfl⟩ := hP cs (flat_trod f _ _ _ _ _ hf h2)
      exact ⟨c, hok, h1⟩)
    refine ⟨l, ⟨hll.symm, ?_⟩, ?_, hl, hm, fun e => by cases e⟩
    · by_cases h0 : l = []
      · exact .inl h0
      · right
        have hlp : 0 < l.length := List.length_pos_iff.2 h0
        obtain ⟨b, off, spot⟩ := a
        have hg := World.cells?_some (hp 0 hlp).2
        have hc0 := hg.2.2 0 hpos
        rw [List.getElem?_eq_getElem (by rw [hg.2.1]; exact hpos)] at hc0
        replace hc0 : ∃ v0, w.cell? (((⟨b, off, spot⟩ : Addr).add (0 * ps.length)).add 0) = some v0 := ⟨_, hc0⟩
        obtain ⟨v0, hc0⟩ := hc0
        have hs := World.cell?_spot hc0
        have hspot : spot = none := by simpa [Addr.add] using hs
        subst hspot
        have hpl : ∀ o k, (⟨b, o, none⟩ : Addr).add k = ⟨b, o + k, none⟩ := fun o k => by simp [Addr.add]
        refine ⟨b, off, rfl, ?_, fun k hk j hj => ?_⟩
        · rw [hpl, hpl] at hc0
          exact World.block_lt_of_cell? _ _ hc0
        · have := (World.cells?_some (hp k hk).2).2.2 j hj
          rw [hpl, hpl] at this
          exact this
    · intro c hcm
      obtain ⟨i, hi, rfl⟩ := List.getElem_of_mem hcm
      exact (hp i hi).1
end
end Go.Proofs.Ytoffbkjhoelghaa
namespace Go.Proofs.Ytoffbkjhoelghaa
set_option linter.unusedVariables false
set_option linter.unusedSimpArgs false
open Go.RowKit
section
variable {P : Program} {s0 : St} {n : Cx} {ops : Array Oper}
theorem gd_ff {o : Oper} {F : Fr} {j t : Nat} {g b : Bool} (h : o.guard = some (j, false)) (ht : (ops[j]?).bind (·.dst) = some t) (hl : lk F t = some (.opt g (.val (.bool b)))) : Gd ops o F (g && !b) := by
  unfold Gd; rw [h]; exact ⟨t, g, b, ht, .inl hl, by simp⟩
end

/-! ### names turned back -/
end Go.Proofs.Ytoffbkjhoelghaa
namespace Go.Proofs.Ytoffbkjhoelghaa
set_option linter.unusedVariables false
set_option linter.unusedSimpArgs false
open Go.RowKit
/-- behind a guard that is known to hold -/
theorem lex_k {P : Program} {ops : Array Oper} {o : Oper} {rest : List Oper} {fp wi : List Nat} {fps : List (List Nat × List Nat)} {F : Fr} {M M' : List Blk} {Q : Fr → List Blk → Prop} {d : D} {t : Nat} {wr : List (Nat × Blk)} (hg : Gd ops o F true) (hn : o.guard.isSome = true) (hd : o.dst = some t) (h : DOp P true o F M fp d wr) (hw : wr.map (·.1) = wi) (hM : upd M wr = M')
    (hk : Lex P ops rest fps ((t, .opt true d) :: F) M' Q) : Lex P ops (o :: rest) ((fp, wi) :: fps) F M Q :=
by
  unfold Lex
  refine ⟨true, d, wr, hg, h, hw, (fun h => by cases h), ?_⟩
  unfold gdd
  cases e : o.guard with
  | none => rw [e] at hn; cases hn
  | some x => rw [hd, hM]; exact hk
section
variable {l : List Oper} {E : List Rc} {F : Fr} {M : List Blk}
end
end Go.Proofs.Ytoffbkjhoelghaa
namespace Go.Proofs.Ytoffbkjhoelghaa
set_option linter.unusedVariables false
set_option linter.unusedSimpArgs false
open Go.RowKit

/-! ### what a type is -/
section
variable {P : Program} {pc : Bool} {o : Oper} {F : Fr} {M : List Blk}
section
variable {T T' : TypeId} {x y : Operand} {k : IntKind} {p q : Int}
end
/-- two values of one type compared, by a law on their equality -/
theorem op_eqv {T T' : TypeId} {x y : Operand} {v u : Value} {b : Bool} (ho : o.op = .binOp .eql T x y T') (hx : Ev pc F x (.val v)) (hy : Ev pc F y (.val u)) (hg : ∀ w, (eqGuard .eql T x y v u).run P w = .ok () w) (h : ∀ w, (binOp .eql T v u).run P w = .ok (.bool b) w) : DOp P pc o F M [] (.val (.bool b)) [] :=
  op_val2 hx hy (by simp [ho, Op.operands]) fun _ a w e1 e2 => by
    unfold execOp
    simp only [ho, e1, e2]
    exact run_v (by rw [Sem.run_bind, hg, Result.andThen_ok, h])
section
variable {T : TypeId} {x : Operand} {i p k : Nat} {L R : List Value} {v : Value}
end
section
variable {T : TypeId} {x y : Operand} {i p n sz : Nat} {k : IntKind} {z : Int} {L : List Value}
variable {e : TypeId} {by' m : Nat}
end
end
end Go.Proofs.Ytoffbkjhoelghaa
namespace Go.Proofs.Ytoffbkjhoelghaa
set_option linter.unusedVariables false
set_option linter.unusedSimpArgs false
open Go.RowKit
section
variable {P : Program} {pc : Bool} {o : Oper} {F : Fr} {M : List Blk}
theorem op_stwb {T T' : TypeId} {x y : Operand} {i : Nat} {rw' : Bool} {z : Bool} {v : Value} (ho : o.op = .store T x y) (hT : tyB P T = some (rw', 1)) (hx : Ev pc F x (.loc i 0)) (hy : Ev pc F y (.val (.bool z))) (hM : M[i]? = some (.flat T' [v])) : DOp P pc o F M [i] .junk [(i, .flat T' [.bool z])] :=
  op_stw ho hT hx hy hM rfl rfl rfl rfl
end
end Go.Proofs.Ytoffbkjhoelghaa
namespace Go.Proofs.Ytoffbkjhoelghaa
set_option linter.unusedVariables false
set_option linter.unusedSimpArgs false
open Go.RowKit
section
variable {P : Program} {pc : Bool} {o : Oper} {F : Fr} {M : List Blk}
section
variable {T e : TypeId} {sz by' n : Nat} {ps : List (Nat × Operand)} {vs Z : List Value}
/-- .. as an array of its own, in the place j -/
theorem op_bsa (j : Nat) (ho : o.op = .buildSlice T n ps.toArray) (hT : slE P T = some (e, sz, by')) (hZ : zrC P e = some Z) (hi : ps.map (·.1) = List.range' 0 n) (hv : EvV pc F (ps.map (·.2)) vs) (hs : vs.all (fun v => v.cells.size == sz) = true) (hbig : n * sz ≤ 16777216) (hn : n ≤ 16777216) (hj : M[j]? = some .hole) :
    DOp P pc o F M [j] (.arr j) [(j, .arr e sz n (vs.flatMap fun v => v.cells.toList))] := by
  intro hp a s hok hops hfp
  have hs' : ∀ v ∈ vs, v.cells.size = sz := fun v hv => by simpa using List.all_eq_true.1 hs v hv
  have hvs := evV_ps hp ho hv hops
  have hlen : vs.length = n := by
    rw [← hvs, List.length_map, List.length_map]
    have := congrArg List.length hi
    simpa using this
  have hj' : s.M[j]? = some .hole := by rw [hfp j (by simp)]; exact hj
  have hjl : j < s.β.length := by rw [hok.len]; exact (List.getElem?_eq_some_iff.1 hj').1
  have hrun := run_buildSlice (P := P) (w := s.w) ho hT hZ hi hvs hs' hbig
  refine dg_step (s' := ⟨s.β.set j (.slice (some ⟨s.w.heap.size, 0, none⟩) n n), s.I, s.M.set j (.arr e sz n (vs.flatMap fun v => v.cells.toList)), _⟩) hrun (tr_new hok hj' _ _ _ (by simp) (fun b hb => by cases hb; rfl) (fun b h => Below.heap_alloc _ _ _ h) (fun b hb => by cases hb; simp) (by simp) rfl rfl rfl ?_) rfl (.arr (by simp [hjl]))
  have := World.ownsRow_lit (base := 0) (e := e) (size := sz) s.w (vs.flatMap fun v => v.cells.toList).toArray n (Nat.zero_le _) (by unfold maxLen; omega) (by simp only [List.size_toArray]; rw [cells_sum hs', hlen])
  exact this
end

/-! ### append -/
end
end Go.Proofs.Ytoffbkjhoelghaa
namespace Go.Proofs.Ytoffbkjhoelghaa
set_option linter.unusedVariables false
set_option linter.unusedSimpArgs false
open Go.RowKit
section
variable {P : Program} {fn : Func} {F : Fr} {M : List Blk} {t u v : Tmp} {d d' e f dr : D}
end
section
variable {P : Program} {pc : Bool} {o : Oper} {F : Fr} {M : List Blk}

/-! ### structs built -/
theorem op_eqb {T T' : TypeId} {x y : Operand} {p q : Bool} (ho : o.op = .binOp .eql T x y T') (hT : P.underlying T = some .bool) (hx : Ev pc F x (.val (.bool p))) (hy : Ev pc F y (.val (.bool q))) : DOp P pc o F M [] (.val (.bool (p == q))) [] :=
  op_eqv ho hx hy (fun w => by unfold eqGuard; rfl) fun w => by
    have h : ∀ d, (Op.equalIn (d + 1) T (.bool p) (.bool q)).run P w = .ok (p == q) w := fun d => by simp [Op.equalIn, run_underlying hT]
    show (do pure (Value.bool (← Op.equalIn (9999 + 1) T (.bool p) (.bool q))) : Sem Value).run P w = _
    rw [Sem.run_bind, h 9999]; rfl
end
section
variable {P : Program} {s0 : St} {n : Cx}
end
end Go.Proofs.Ytoffbkjhoelghaa
namespace Go.Proofs.Ytoffbkjhoelghaa
set_option linter.unusedVariables false
set_option linter.unusedSimpArgs false
open Go.RowKit
section
variable {P : Program} {s0 : St} {n : Cx}
end
section
variable {P : Program}
section
variable {fn : Func} {F : Fr} {M : List Blk} {r1 r2 r3 r4 : ResultVar} {d1 d2 d3 d4 d : D}
/-- one cell -/
theorem rv_1 {p : Tmp} {T T' : TypeId} {i k : Nat} {v : Value} {L : List Value} (hT : tyB P T = some (false, k)) (h : lk F p = some (.loc i 0)) (hM : M[i]? = some (.flat T' L)) (hl : L[0]? = some v) : RvD P (.cell p T) F M (.val v) := fun s a ho hMs hF => by
  subst hMs
  have hv := hF p _ h
  generalize hvx : slot a p = vx at hv
  cases hv with
  | @loc _ _ b hb =>
    obtain ⟨b', e1, e2⟩ := ho.blk i _ _ hM hb
    cases e1
    obtain ⟨dd, ii, h1, h2, h3, h4⟩ := tyB_spec hT
    refine ⟨v, ?_, .val _⟩
    have hvx' : a.tmps.getD p undef = .pointer (some ⟨b, 0, none⟩) := hvx
    have hc : s.w.cell? ⟨b, 0, none⟩ = some v := by rw [cell_of_row s.w b 0 L.toArray T' (0, 0) e2]; simpa using hl
    have hagg : (isAgg T).run P s.w = .ok false s.w := by
      unfold isAgg
      rw [Sem.run_bind, run_underlying h1]
      cases dd <;> simp_all [TypeDesc.isRow]
    simp only [rv, hvx']
    simp [asAddr, loadVar, Sem.run_bind, hagg, load, Sem.run, hc]
end

/-! ### interfaces, panics -/
section
variable {pc : Bool} {o : Oper} {F : Fr} {M : List Blk}
end
end
end Go.Proofs.Ytoffbkjhoelghaa
namespace Go.Proofs.Ytoffbkjhoelghaa
set_option linter.unusedVariables false
set_option linter.unusedSimpArgs false
open Go.RowKit
section
variable {P : Program} {s0 : St} {n : Cx}
variable {ops : Array Oper}
/-- is a slice nil? -/
theorem walk_nil? {o : Oper} {rest : List Oper} {F : Fr} {M : List Blk} {K : Cont} {T T' e : TypeId} {sz by' m t : Nat} {L : List Value} {x : Operand} (hg : o.guard = none) (hd : o.dst = some t) (ht : Nat.blt t n.n = true) (ho : o.op = .binOp .eql T x (.const (.slice none 0 0)) T') (hT : slE P T = some (e, sz, by')) (hx : Ev true F x (.slf sz m L))
    (hk : ∀ b, (b = true → m = 0 ∧ L = []) → Walk P s0 n ops rest ((t, .val (.bool b)) :: F) M K) : Walk P s0 n ops (o :: rest) F M K := by
  intro a w hi
  have hi' := hi
  obtain ⟨h0, s, h1, h2, h3, h4, h5, h6⟩ := hi
  obtain ⟨dx, ex1, ex2⟩ := hx
  have hrx := ex2 s _ rfl (ev_rep h4 ex1)
  generalize hvx : a.eval x = vx at hrx
  cases hrx with
  | @slf _ _ cap ad _ hl hn hc ha hm =>
    obtain ⟨hu, _⟩ := slE_spec hT
    have hrun : (execOp a.eval o).run P w = .ok (.value (.bool ad.isNone)) w := by
      unfold execOp
      simp only [ho]
      have hv : a.eval (.const (.slice none 0 0)) = .slice none 0 0 := rfl
      rw [hv, hvx]
      refine run_v ?_
      simp only [eqGuard, binOp, Sem.run_bind]
      have heq : ∀ d, (Op.equalIn (d + 1) T (.slice ad m cap) (.slice none 0 0)).run P w = .ok ad.isNone w := fun d => by
        unfold Op.equalIn
        rw [Sem.run_bind, run_underlying hu]
        cases ad <;> simp
      have heq' : (Op.equalIn Op.maxDepth T (.slice ad m cap) (.slice none 0 0)).run P w = .ok ad.isNone w := heq 9999
      simp [Op.equal, heq', Sem.run_bind, go_sem]
    have hfin := hk ad.isNone (fun hb => by
      cases ad with
      | none => have := ha rfl; exact ⟨by omega, List.eq_nil_of_length_eq_zero (by rw [hl, show m = 0 by omega]; simp)⟩
      | some q => cases hb) (a.put o.dst (.bool ad.isNone)) w (by
        obtain ⟨h0, s, h1, h2, h3, h4, h5, h6⟩ := hi'
        refine ⟨h0, s, h1, h2, h3, ?_, by rw [put_size]; exact h5, by rw [put_def]; exact h6⟩
        rw [hd]
        exact h4.put (by rw [h5]; exact Nat.blt_eq.mp ht) (.val _))
    show if Region.wanted o (yielded ops a.tmps) then _ else _
    have hw : Region.wanted o (yielded ops a.tmps) = true := by unfold Region.wanted; rw [hg]
    rw [if_pos hw]
    refine ⟨fun _ _ => trivial, ?_⟩
    rw [semAt_noDef (by rw [ho]; rfl), hrun]
    exact hfin
end
section
variable {P : Program} {pc : Bool} {o : Oper} {F : Fr} {M : List Blk} {α : Type} {en : α → List Value} {T T' e : TypeId} {sz by' k n i j : Nat} {l : List α} {x y : Operand}
end
end Go.Proofs.Ytoffbkjhoelghaa
namespace Go.Proofs.Ytoffbkjhoelghaa
set_option linter.unusedVariables false
set_option linter.unusedSimpArgs false
open Go.RowKit
def rst : Bool → LoopState
  | true => .ready
  | false => .done
def rpe (c : Code) : Bool → Option Code
  | true => none
  | false => some c
theorem rst_busy (r : Bool) : rst r ≠ .busy := by cases r <;> simp [rst]
section
variable {P : Program} {s0 : St} {n : Cx}
end
end Go.Proofs.Ytoffbkjhoelghaa
namespace Go.Proofs.Ytoffbkjhoelghaa
set_option linter.unusedVariables false
set_option linter.unusedSimpArgs false
open Go.ChangeShapes Go.WideShapes Go.ChangeAt Go.RowKit Go.Joins Go.Deep
set_option maxRecDepth 100000
section
variable {H : Type} {enc : TypeId × Value → H} {w : World} {base b0 : Nat} {r : Reach} {spare : Nat → Bool} {held : Bool} {v : Value} {d : DataW H} {p : List MemPlace}
theorem rep_row {α : Type} {W : World} {a : Option Addr} {n cap sz : Nat} {en : α → List Value} {l : List α} (hx : rowV W a n sz en l) (hc : n ≤ cap) (hm : cap ≤ maxLen) (hnil : a = none → cap = 0) (hen : ∀ a, (en a).length = sz) : Rep (st0 W) (.slf sz l.length (l.flatMap en)) (.slice a n cap) := by
  obtain ⟨rfl, hx⟩ := hx
  refine .slf (flat_len hen l) hc hm hnil ?_
  rcases hx with rfl | ⟨b, off, rfl, hlt, hcell⟩
  · exact .inl rfl
  · refine .inr ⟨b, off, rfl, hlt, fun j u hj => ?_⟩
    show W.cell? ⟨b, off + j, none⟩ = some u
    have hjl : j < l.length * sz := by rw [← flat_len hen l]; exact (List.getElem?_eq_some_iff.1 hj).1
    have hsz : 0 < sz := by
      rcases Nat.eq_zero_or_pos sz with e | e
      · rw [e] at hjl; omega
      · exact e
    have hq : j / sz < l.length := (Nat.div_lt_iff_lt_mul hsz).2 hjl
    have hr := Nat.mod_lt j hsz
    have e : j = j / sz * sz + j % sz := by rw [Nat.mul_comm]; exact (Nat.div_add_mod j sz).symm
    rw [e, flat_cell hen hq hr] at hj
    have := hcell (j / sz) hq (j % sz) hr
    rw [hj] at this
    rw [e, ← Nat.add_assoc]
    exact this
end
end Go.Proofs.Ytoffbkjhoelghaa
namespace Go.Proofs.Ytoffbkjhoelghaa
set_option linter.unusedVariables false
set_option linter.unusedSimpArgs false
open Go.RowKit
section
variable {P : Program} {s0 : St} {n : Cx}
end
section
variable {P : Program} {pc : Bool} {o : Oper} {F : Fr} {M : List Blk} {T T' : TypeId} {x y : Operand} {i n sz : Nat} {k : IntKind} {z : Int} {α : Type} {en : α → List Value} {l : List α} {j : Nat}
end
section
variable {P : Program} {pc : Bool} {o : Oper} {F : Fr} {M : List Blk}
/-- something with addresses, into a variable that had none -/
theorem op_stfm {T T' : TypeId} {x y : Operand} {i p : Nat} {rw' : Bool} {d : D} {L : List Value} (ho : o.op = .store T x y) (hT : tyB P T = some (rw', 1)) (hx : Ev pc F x (.loc i p)) (hy : Ev pc F y d) (h1 : ∀ (s : St) v, Rep s d v → v.cells = #[v] ∧ v.oneCell' = true) (hM : M[i]? = some (.flat T' L)) (hfit : p < L.length) : DOp P pc o F M [i] .junk [(i, .mix T' ((L.map .val).set p d))] := by
  intro hp a s hok hops hfp
  have hr := ev_at hp hx (by simp [ho, Op.operands]) hops
  have hry := ev_at hp hy (by simp [ho, Op.operands]) hops
  obtain ⟨hc1, hc2⟩ := h1 s _ hry
  have hM' : s.M[i]? = some (.flat T' L) := by rw [hfp i (by simp)]; exact hM
  generalize hv : a.eval x = vx at hr
  cases hr with
  | @loc _ _ b h =>
    obtain ⟨b', e1, e2⟩ := hok.blk i _ _ hM' h
    cases e1
    obtain ⟨vs, hvs⟩ : ∃ vs, vs = L := ⟨_, rfl⟩
    rw [← hvs] at e2 hfit
    have e3 : vs.length = (L.map D.val).length := by rw [hvs]; simp
    have e4 : ∀ (j : Nat) d v, (L.map D.val)[j]? = some d → vs[j]? = some v → Rep s d v := fun j d v h1 h2 => by
      rw [hvs] at h2
      simp [h2] at h1
      subst h1
      exact .val _
    have hcell := cellsAt_block e2 0
    have hrun := run_store (P := P) (w := s.w) (C := [a.eval y]) ho hT hv rfl (by rw [hc1]) rfl (fun j hj => by
        have hj0 : j = 0 := by simp at hj; exact hj
        subst hj0
        have hp' : p < vs.length := by omega
        have := hcell p vs[p] (by simp [hp'])
        rw [Nat.zero_add] at this
        rw [Nat.add_zero, this]; rfl) (fun j hj => by simp [World.frozen?, e2]) (fun u hu => by rw [List.mem_singleton.1 hu]; exact hc2)
    refine dg_skip (s' := ⟨s.β.set i (.pointer (some ⟨b, 0, none⟩)), s.I, s.M.set i (.mix T' ((L.map .val).set p d)), s.w.setCells b p [a.eval y]⟩) hrun (tr_store hok hM' rfl h rfl p _ ?_) rfl
    refine ⟨b, vs.set p (a.eval y), rfl, setCells_block b _ p s.w vs T' e2, by simp [e3], fun j e v hj hv' => ?_⟩
    have hβ : s.β.set i (.pointer (some ⟨b, 0, none⟩)) = s.β := by
      apply List.ext_getElem?
      intro k
      by_cases e : i = k
      · subst e; rw [List.getElem?_set_self (List.getElem?_eq_some_iff.1 h).1, h]
      · rw [List.getElem?_set_ne e]
    have lift : ∀ {e : D} {v : Value}, Rep s e v → Rep ⟨s.β.set i (.pointer (some ⟨b, 0, none⟩)), s.I, s.M.set i (.mix T' ((L.map .val).set p d)), s.w.setCells b p [a.eval y]⟩ e v := by
      intro e v hr
      refine Rep.mono' (s := s) (s' := ⟨s.β.set i (.pointer (some ⟨b, 0, none⟩)), s.I, s.M.set i (.mix T' ((L.map .val).set p d)), s.w.setCells b p [a.eval y]⟩) (fun k x hk _ => by show (s.β.set i _)[k]? = _; rw [hβ]; exact hk) (fun _ h => h) (fun b' hI => setCells_other b _ p s.w b' fun e => ?_) hr
      subst e
      exact (hok.lt b' (live_of hM' rfl h rfl)).2 hI
    by_cases e' : p = j
    · subst e'
      rw [List.getElem?_set_self (by omega)] at hj
      rw [List.getElem?_set_self (by omega)] at hv'
      cases hj; cases hv'
      exact lift hry
    · rw [List.getElem?_set_ne e'] at hj hv'
      exact lift (e4 j e v hj hv')
end
section
variable {P : Program} {s0 : St} {n : Cx}
end
end Go.Proofs.Ytoffbkjhoelghaa
namespace Go.Proofs.Ytoffbkjhoelghaa
set_option linter.unusedVariables false
set_option linter.unusedSimpArgs false
open Go.RowKit
section
variable {P : Program} {pc : Bool} {o : Oper} {F : Fr} {M : List Blk} {T e : TypeId} {by' : Nat} {x y : Operand}
/-- a nil slice, as a row of rows that has none -/
theorem evnilm (h : Ev pc F x (.val (.slice none 0 0))) : Ev pc F x (.slm 1 0 []) := by
  obtain ⟨d, h1, h2⟩ := h
  refine ⟨d, h1, fun s v hp hr => ?_⟩
  have hr := h2 s v hp hr
  cases hr
  exact .slm (vs := []) rfl rfl (Nat.le_refl _) (Nat.zero_le _) (fun _ => rfl) rfl (fun j d v h => by simp at h) (.inl rfl)
end
end Go.Proofs.Ytoffbkjhoelghaa
namespace Go.Proofs.Ytoffbkjhoelghaa
set_option maxRecDepth 4000
set_option linter.unusedVariables false
set_option linter.unusedSimpArgs false
open Go.RowKit
def cnt {α : Type} (f : Nat → α → Bool) : List α → Nat → Int
  | [], _ => 0
  | a :: r, i => (if f i a then 1 else 0) + cnt f r (i + 1)
end Go.Proofs.Ytoffbkjhoelghaa
namespace Go.Proofs.Ytoffbkjhoelghaa
set_option maxRecDepth 4000
set_option linter.unusedVariables false
set_option linter.unusedSimpArgs false
open Go.RowKit
theorem norm_id {l : List Sp} (h : okS l) : normS l = l := (norm_uniq h.1 h fun _ _ => Iff.rfl).symm
end Go.Proofs.Ytoffbkjhoelghaa
namespace Go.Proofs.Ytoffbkjhoelghaa
set_option maxRecDepth 4000
set_option linter.unusedVariables false
set_option linter.unusedSimpArgs false
open Go.RowKit
def Sp.pts (s : Sp) : List P2 := (List.range s.wd).map fun i : Nat => ⟨s.f + (i : Int), s.y⟩
def ptsS (l : List Sp) : List P2 := l.flatMap Sp.pts
theorem pts_mem {s : Sp} {p : P2} : p ∈ s.pts ↔ s.has p.x p.y := by
  unfold Sp.pts Sp.has Sp.wd
  rw [List.mem_map]
  constructor
  · rintro ⟨i, hi, rfl⟩
    rw [List.mem_range] at hi
    exact ⟨rfl, by show s.f ≤ s.f + (i : Int); omega, by show s.f + (i : Int) ≤ s.t; omega⟩
  · rintro ⟨h1, h2, h3⟩
    refine ⟨(p.x - s.f).toNat, List.mem_range.2 (by omega), ?_⟩
    cases p
    simp only at *
    congr 1
    omega
theorem ptsS_mem {l : List Sp} {p : P2} : p ∈ ptsS l ↔ hasS l p.x p.y := by
  unfold ptsS hasS
  rw [List.mem_flatMap]
  exact ⟨fun ⟨s, h, g⟩ => ⟨s, h, pts_mem.1 g⟩, fun ⟨s, h, g⟩ => ⟨s, h, pts_mem.2 g⟩⟩
theorem ptsS_len (l : List Sp) : (ptsS l).length = cntS l := by
  unfold ptsS cntS
  rw [List.length_flatMap]
  congr 1
  exact List.map_congr_left fun s _ => by simp [Sp.pts]
theorem ptsS_nodup : ∀ {l : List Sp}, okS l → (ptsS l).Nodup
  | [], _ => List.nodup_nil
  | a :: l, h => by
    unfold ptsS
    rw [List.flatMap_cons]
    refine List.nodup_append.2 ⟨?_, ptsS_nodup (okS_tail h), fun p hp q hq e => ?_⟩
    · exact List.pairwise_map.2 (List.nodup_range.imp fun {i j} hne e => hne (by have e : a.f + (i : Int) = a.f + (j : Int) := congrArg P2.x e; omega))
    · subst e
      exact (okS_apart h (ptsS_mem.1 hq)).1 (pts_mem.1 hp)
theorem cnt_union {u a b : List Sp} (hu : okS u) (ha : okS a) (hb : okS b) (h : ∀ x y, hasS u x y ↔ hasS a x y ∨ hasS b x y) : cntS u + ((ptsS a).filter fun p => decide (hasS b p.x p.y)).length = cntS a + cntS b := by
  have p1 : (ptsS u).Perm (ptsS a ++ (ptsS b).filter fun p => !decide (hasS a p.x p.y)) := by
    refine (List.perm_ext_iff_of_nodup (ptsS_nodup hu) (List.nodup_append.2 ⟨ptsS_nodup ha, (ptsS_nodup hb).filter _, fun p hp q hq e => ?_⟩)).2 fun p => ?_
    · subst e
      have := (List.mem_filter.1 hq).2
      simp [ptsS_mem.1 hp] at this
    · rw [List.mem_append, List.mem_filter, ptsS_mem, ptsS_mem, ptsS_mem, h]
      by_cases g : hasS a p.x p.y <;> simp [g]
  have p2 : ((ptsS b).filter fun p => decide (hasS a p.x p.y)).Perm ((ptsS a).filter fun p => decide (hasS b p.x p.y)) := by
    refine (List.perm_ext_iff_of_nodup ((ptsS_nodup hb).filter _) ((ptsS_nodup ha).filter _)).2 fun p => ?_
    rw [List.mem_filter, List.mem_filter, ptsS_mem, ptsS_mem, decide_eq_true_eq, decide_eq_true_eq, And.comm]
  have l1 := p1.length_eq
  have l2 := p2.length_eq
  rw [List.length_append] at l1
  have l3 : ∀ (q : P2 → Bool) (l : List P2), (l.filter q).length + (l.filter fun p => !q p).length = l.length := fun q l => by
    induction l with
    | nil => rfl
    | cons c l ih => by_cases e : q c <;> simp [e] <;> omega
  have l4 := l3 (fun p => decide (hasS a p.x p.y)) (ptsS b)
  rw [ptsS_len] at l1 l4
  rw [ptsS_len] at l1
  omega
end Go.Proofs.Ytoffbkjhoelghaa
namespace Go.Proofs.Ytoffbkjhoelghaa
set_option maxRecDepth 4000
set_option linter.unusedVariables false
set_option linter.unusedSimpArgs false
open Go.RowKit
theorem zr4 : zrC Try.prog 4 = some [.bool false] := by kernel_rfl
noncomputable def hsrA : Code := rfA (pth [1, 0, 1, 1, 0, 1, 0] (bodyOf Try.f33))
noncomputable def hsrB : Code := rfB (pth [1, 0, 1, 1, 0, 1, 0] (bodyOf Try.f33))
def hitB (s : Sp) (p : P2) : Bool := decide (s.y = p.y) && (decide (s.f ≤ p.x) && decide (p.x ≤ s.t))
theorem hitB_iff {s : Sp} {p : P2} : hitB s p = true ↔ s.has p.x p.y := by
  unfold hitB Sp.has
  simp only [Bool.and_eq_true, decide_eq_true_eq]
def goB (s : Sp) (p : P2) : Bool := !decide (p.y < s.y) && !hitB s p
def hasB (l : List Sp) (p : P2) : Bool := decide (hasS l p.x p.y)
theorem hasB_stop {l : List Sp} (hc : chkS l) {p : P2} {i : Nat} (hi : i < l.length) (ha : (l.take i).all (fun s => goB s p) = true) (hg : goB l[i] p = false) : hasB l p = hitB l[i] p := by
  unfold hasB
  rw [Bool.eq_iff_iff, decide_eq_true_eq, hitB_iff]
  constructor
  · rintro ⟨s, hs, h⟩
    obtain ⟨j, hj, rfl⟩ := List.getElem_of_mem hs
    rcases Nat.lt_trichotomy j i with e | e | e
    · have := List.all_eq_true.1 ha l[j] (List.mem_take_iff_getElem.2 ⟨j, by omega, rfl⟩)
      unfold goB at this
      rw [hitB_iff.2 h] at this
      simp at this
    · subst e; exact h
    · unfold goB at hg
      cases hh : hitB l[i] p with
      | true => exact hitB_iff.1 hh
      | false =>
        rw [hh] at hg
        have h1 : p.y < l[i].y := by simpa using hg
        have h2 := List.pairwise_iff_getElem.1 hc.2 i j hi hj e
        have h3 := h.1
        unfold apS at h2
        omega
  · exact fun h => ⟨_, List.getElem_mem hi, h⟩
theorem hasB_end {l : List Sp} {p : P2} (ha : l.all (fun s => goB s p) = true) : hasB l p = false := by
  unfold hasB
  rw [decide_eq_false_iff_not]
  rintro ⟨s, hs, h⟩
  have := List.all_eq_true.1 ha s hs
  unfold goB at this
  rw [hitB_iff.2 h] at this
  simp at this
theorem all_add {α : Type} {q : α → Bool} {l : List α} {i : Nat} (hi : i < l.length) (h : (l.take i).all q = true) (hq : q l[i] = true) : (l.take (i + 1)).all q = true := by
  rw [List.take_succ_eq_append_getElem hi, List.all_append, h]
  simp [hq]
theorem all_no {α : Type} {q : α → Bool} {l : List α} {i : Nat} (hi : i < l.length) (hq : q l[i] = false) : l.all q = false := List.all_eq_false.2 ⟨_, List.getElem_mem hi, by simp [hq]⟩
set_option maxRecDepth 4000 in
set_option maxHeartbeats 1000000 in
theorem hasRound_y (s : Sp) (p : P2) (b : Bool) (h : p.y < s.y) : DRound Try.prog 0 [.val (.agg (s3 s).toArray)] [.lp 35 [(3, .loc 1 0), (5, .loc 2 0)] #[9] hsrA hsrB .ready none, .flat 25 [.int .i64 p.x, .int .i64 p.y], .flat 4 [.bool b]] false [.lp 35 [(3, .loc 1 0), (5, .loc 2 0)] #[9] hsrA hsrB .done (some (.exit 0)), .flat 25 [.int .i64 p.x, .int .i64 p.y], .flat 4 [.bool b]] := by
  refine dround_go 3 rfl rfl (by simp) rfl rfl fun s0 hs0 => ?_
  refine dwp_holes 1 (by simp only [holes, List.cons_append, List.nil_append]; exact rfl) ?_
  refine zad ?_
  refine walk_w rfl rfl rfl (op_alloc 3 rfl zr40 rfl) (by simp only [upd, zaa, za]; exact rfl) ?_
  refine walk_s rfl rfl (op_stwa rfl tb40 (ev1 rfl) (ev1 rfl) rfl rfl rfl rfl) (by simp only [upd, zaa, za]; exact rfl) ?_
  refine zaf ?_
  refine ⟨rfl, ?_⟩
  simp only [zaa, za]
  refine dwp_block ?_
  refine zae ?_
  refine zae ?_
  refine zad ?_
  refine zab rfl rfl rfl (op_fa rfl fo40_0 (ev1 rfl)) ?_
  refine zab rfl rfl rfl (op_ldo rfl tb3 (ev1 rfl) rfl rfl) ?_
  refine zab rfl rfl rfl (op_fa rfl fo25_1 (ev1 rfl)) ?_
  refine zab rfl rfl rfl (op_ldo rfl tb3 (ev1 rfl) rfl rfl) ?_
  refine zab rfl rfl rfl (op_gtr rfl (ev1 rfl) (ev1 rfl)) ?_
  refine zaf ?_
  refine dwp_if_t rfl (by simpa using h) ?_
  refine dwp_exit ?_
  refine ⟨by first | rfl | assumption | simp_all, rfl, [0, 1, 2], rfl, ⟨rfl, rfl, rfl, trivial⟩⟩
set_option maxRecDepth 4000 in
set_option maxHeartbeats 1000000 in
theorem hasRound_t (s : Sp) (p : P2) (b : Bool) (h : ¬ p.y < s.y ∧ hitB s p = true) : DRound Try.prog 0 [.val (.agg (s3 s).toArray)] [.lp 35 [(3, .loc 1 0), (5, .loc 2 0)] #[9] hsrA hsrB .ready none, .flat 25 [.int .i64 p.x, .int .i64 p.y], .flat 4 [.bool b]] false [.lp 35 [(3, .loc 1 0), (5, .loc 2 0)] #[9] hsrA hsrB .done (some (.exit 0)), .flat 25 [.int .i64 p.x, .int .i64 p.y], .flat 4 [.bool true]] := by
  refine dround_go 3 rfl rfl (by simp) rfl rfl fun s0 hs0 => ?_
  refine dwp_holes 1 (by simp only [holes, List.cons_append, List.nil_append]; exact rfl) ?_
  refine zad ?_
  refine walk_w rfl rfl rfl (op_alloc 3 rfl zr40 rfl) (by simp only [upd, zaa, za]; exact rfl) ?_
  refine walk_s rfl rfl (op_stwa rfl tb40 (ev1 rfl) (ev1 rfl) rfl rfl rfl rfl) (by simp only [upd, zaa, za]; exact rfl) ?_
  refine zaf ?_
  refine ⟨rfl, ?_⟩
  simp only [zaa, za]
  refine dwp_block ?_
  refine zae ?_
  refine zae ?_
  refine zad ?_
  refine zab rfl rfl rfl (op_fa rfl fo40_0 (ev1 rfl)) ?_
  refine zab rfl rfl rfl (op_ldo rfl tb3 (ev1 rfl) rfl rfl) ?_
  refine zab rfl rfl rfl (op_fa rfl fo25_1 (ev1 rfl)) ?_
  refine zab rfl rfl rfl (op_ldo rfl tb3 (ev1 rfl) rfl rfl) ?_
  refine zab rfl rfl rfl (op_gtr rfl (ev1 rfl) (ev1 rfl)) ?_
  refine zaf ?_
  refine dwp_if_f rfl (by simpa using h.1) ?_
  refine dwp_skip ?_
  refine zae ?_
  refine zad ?_
  refine zab rfl rfl rfl (op_fa rfl fo40_0 (ev1 rfl)) ?_
  refine zab rfl rfl rfl (op_ldo rfl tb3 (ev1 rfl) rfl rfl) ?_
  refine zab rfl rfl rfl (op_fa rfl fo25_1 (ev1 rfl)) ?_
  refine zab rfl rfl rfl (op_ldo rfl tb3 (ev1 rfl) rfl rfl) ?_
  refine zab rfl rfl rfl (op_eql rfl (ev1 rfl) (ev1 rfl)) ?_
  refine zab rfl rfl rfl (zac (.inl rfl) (ev1 rfl)) ?_
  refine walk_gr (gd_t rfl rfl rfl) rfl rfl rfl (op_fa rfl fo40_1 (ev1 rfl)) ?_
  refine walk_gr (gd_t rfl rfl rfl) rfl rfl rfl (op_ldo rfl tb3 (ev2 rfl) rfl rfl) ?_
  refine walk_gr (gd_t rfl rfl rfl) rfl rfl rfl (op_fa rfl fo25_0 (ev1 rfl)) ?_
  refine walk_gr (gd_t rfl rfl rfl) rfl rfl rfl (op_ldo rfl tb3 (ev2 rfl) rfl rfl) ?_
  refine walk_gr (gd_t rfl rfl rfl) rfl rfl rfl (op_leq rfl (ev2 rfl) (ev2 rfl)) ?_
  refine zab rfl rfl rfl (op_and rfl (ev1 rfl) (ev3 rfl id)) ?_
  refine zab rfl rfl rfl (zac (.inl rfl) (ev1 rfl)) ?_
  refine walk_gr (gd_t rfl rfl rfl) rfl rfl rfl (op_fa rfl fo25_0 (ev1 rfl)) ?_
  refine walk_gr (gd_t rfl rfl rfl) rfl rfl rfl (op_ldo rfl tb3 (ev2 rfl) rfl rfl) ?_
  refine walk_gr (gd_t rfl rfl rfl) rfl rfl rfl (op_fa rfl fo40_2 (ev1 rfl)) ?_
  refine walk_gr (gd_t rfl rfl rfl) rfl rfl rfl (op_ldo rfl tb3 (ev2 rfl) rfl rfl) ?_
  refine walk_gr (gd_t rfl rfl rfl) rfl rfl rfl (op_leq rfl (ev2 rfl) (ev2 rfl)) ?_
  refine zab rfl rfl rfl (op_and rfl (ev1 rfl) (ev3 rfl id)) ?_
  refine zaf ?_
  refine dwp_if_t rfl (by have := h.2; unfold hitB at this; simp at this; simp [this]) ?_
  refine zae ?_
  refine zad ?_
  refine walk_s rfl rfl (op_stwb rfl tb4 (ev1 rfl) (ev1 rfl) rfl) (by simp only [upd, zaa, za]; exact rfl) ?_
  refine zaf ?_
  refine dwp_exit ?_
  refine ⟨by first | rfl | assumption | simp_all, rfl, [0, 1, 2], rfl, ⟨rfl, rfl, rfl, trivial⟩⟩
set_option maxRecDepth 4000 in
set_option maxHeartbeats 1000000 in
theorem hasRound_g (s : Sp) (p : P2) (b : Bool) (h : ¬ p.y < s.y ∧ hitB s p = false) : DRound Try.prog 0 [.val (.agg (s3 s).toArray)] [.lp 35 [(3, .loc 1 0), (5, .loc 2 0)] #[9] hsrA hsrB .ready none, .flat 25 [.int .i64 p.x, .int .i64 p.y], .flat 4 [.bool b]] true [.lp 35 [(3, .loc 1 0), (5, .loc 2 0)] #[9] hsrA hsrB .ready none, .flat 25 [.int .i64 p.x, .int .i64 p.y], .flat 4 [.bool b]] := by
  refine dround_go 3 rfl rfl (by simp) rfl rfl fun s0 hs0 => ?_
  refine dwp_holes 1 (by simp only [holes, List.cons_append, List.nil_append]; exact rfl) ?_
  refine zad ?_
  refine walk_w rfl rfl rfl (op_alloc 3 rfl zr40 rfl) (by simp only [upd, zaa, za]; exact rfl) ?_
  refine walk_s rfl rfl (op_stwa rfl tb40 (ev1 rfl) (ev1 rfl) rfl rfl rfl rfl) (by simp only [upd, zaa, za]; exact rfl) ?_
  refine zaf ?_
  refine ⟨rfl, ?_⟩
  simp only [zaa, za]
  refine dwp_block ?_
  refine zae ?_
  refine zae ?_
  refine zad ?_
  refine zab rfl rfl rfl (op_fa rfl fo40_0 (ev1 rfl)) ?_
  refine zab rfl rfl rfl (op_ldo rfl tb3 (ev1 rfl) rfl rfl) ?_
  refine zab rfl rfl rfl (op_fa rfl fo25_1 (ev1 rfl)) ?_
  refine zab rfl rfl rfl (op_ldo rfl tb3 (ev1 rfl) rfl rfl) ?_
  refine zab rfl rfl rfl (op_gtr rfl (ev1 rfl) (ev1 rfl)) ?_
  refine zaf ?_
  refine dwp_if_f rfl (by simpa using h.1) ?_
  refine dwp_skip ?_
  refine zae ?_
  refine zad ?_
  refine zab rfl rfl rfl (op_fa rfl fo40_0 (ev1 rfl)) ?_
  refine zab rfl rfl rfl (op_ldo rfl tb3 (ev1 rfl) rfl rfl) ?_
  refine zab rfl rfl rfl (op_fa rfl fo25_1 (ev1 rfl)) ?_
  refine zab rfl rfl rfl (op_ldo rfl tb3 (ev1 rfl) rfl rfl) ?_
  refine zab rfl rfl rfl (op_eql rfl (ev1 rfl) (ev1 rfl)) ?_
  refine zab rfl rfl rfl (zac (.inl rfl) (ev1 rfl)) ?_
  refine walk_gr (gd_t rfl rfl rfl) rfl rfl rfl (op_fa rfl fo40_1 (ev1 rfl)) ?_
  refine walk_gr (gd_t rfl rfl rfl) rfl rfl rfl (op_ldo rfl tb3 (ev2 rfl) rfl rfl) ?_
  refine walk_gr (gd_t rfl rfl rfl) rfl rfl rfl (op_fa rfl fo25_0 (ev1 rfl)) ?_
  refine walk_gr (gd_t rfl rfl rfl) rfl rfl rfl (op_ldo rfl tb3 (ev2 rfl) rfl rfl) ?_
  refine walk_gr (gd_t rfl rfl rfl) rfl rfl rfl (op_leq rfl (ev2 rfl) (ev2 rfl)) ?_
  refine zab rfl rfl rfl (op_and rfl (ev1 rfl) (ev3 rfl id)) ?_
  refine zab rfl rfl rfl (zac (.inl rfl) (ev1 rfl)) ?_
  refine walk_gr (gd_t rfl rfl rfl) rfl rfl rfl (op_fa rfl fo25_0 (ev1 rfl)) ?_
  refine walk_gr (gd_t rfl rfl rfl) rfl rfl rfl (op_ldo rfl tb3 (ev2 rfl) rfl rfl) ?_
  refine walk_gr (gd_t rfl rfl rfl) rfl rfl rfl (op_fa rfl fo40_2 (ev1 rfl)) ?_
  refine walk_gr (gd_t rfl rfl rfl) rfl rfl rfl (op_ldo rfl tb3 (ev2 rfl) rfl rfl) ?_
  refine walk_gr (gd_t rfl rfl rfl) rfl rfl rfl (op_leq rfl (ev2 rfl) (ev2 rfl)) ?_
  refine zab rfl rfl rfl (op_and rfl (ev1 rfl) (ev3 rfl id)) ?_
  refine zaf ?_
  refine dwp_if_f rfl (by rw [← h.2]; unfold hitB; simp [Bool.and_assoc]; rfl) ?_
  refine dwp_skip ?_
  refine ⟨by first | rfl | assumption | simp_all, rfl, [0, 1, 2], rfl, ⟨rfl, rfl, rfl, trivial⟩⟩
theorem hasRound (s : Sp) (p : P2) : DRound Try.prog 0 [.val (.agg (s3 s).toArray)] [.lp 35 [(3, .loc 1 0), (5, .loc 2 0)] #[9] hsrA hsrB .ready none, .flat 25 [.int .i64 p.x, .int .i64 p.y], .flat 4 [.bool false]] (goB s p) [.lp 35 [(3, .loc 1 0), (5, .loc 2 0)] #[9] hsrA hsrB (rst (goB s p)) (rpe (.exit 0) (goB s p)), .flat 25 [.int .i64 p.x, .int .i64 p.y], .flat 4 [.bool (hitB s p)]] := by
  by_cases h : p.y < s.y
  · have e : goB s p = false := by unfold goB; simp [h]
    have e2 : hitB s p = false := by unfold hitB; rw [decide_eq_false (by omega)]; rfl
    rw [e, e2]
    exact hasRound_y s p false h
  · cases hh : hitB s p with
    | true =>
      have e : goB s p = false := by unfold goB; simp [hh]
      rw [e]
      exact hasRound_t s p false ⟨h, hh⟩
    | false =>
      have e : goB s p = true := by unfold goB; simp [hh]; omega
      rw [e]
      exact hasRound_g s p false ⟨h, hh⟩
set_option maxRecDepth 4000 in
set_option maxHeartbeats 1000000 in
theorem told_has (l : List Sp) (hc : chkS l) (p : P2) (hn : l.length ≤ 9223372036854775807) : DFun Try.prog 68 [.yld 0, .loc 3 0] [.lp 35 [(3, .loc 1 0), (5, .loc 2 0)] #[9] hsrA hsrB .ready none, .flat 25 [.int .i64 p.x, .int .i64 p.y], .flat 4 [.bool false], .mix 32 [.slf 3 (l).length ((l).flatMap s3)]] (.tup []) [.lp 35 [(3, .loc 1 0), (5, .loc 2 0)] #[9] hsrA hsrB (rst (l.all fun s => goB s p)) (rpe (.exit 0) (l.all fun s => goB s p)), .flat 25 [.int .i64 p.x, .int .i64 p.y], .flat 4 [.bool (hasB l p)], .mix 32 [.slf 3 (l).length ((l).flatMap s3)]] := by
  refine dcalls_go (N := 19) 4 (by kernel_rfl) Try.func68 rfl rfl rfl (by simp only [fr0, Nat.zero_add, Nat.reduceAdd]; exact rfl) rfl fun s0 hs0 => ?_
  refine zae ?_
  refine zae ?_
  refine zad ?_
  refine zab rfl rfl rfl (op_ldm rfl tb32 (ev1 rfl) rfl rfl) ?_
  refine zab rfl rfl rfl (dop_call [] [] [] rfl (ev1 rfl) (ec (ev1 rfl) en) rfl rfl (check_d l) rfl rfl rfl rfl rfl rfl) ?_
  refine zab rfl rfl rfl (op_neq rfl (ev1 rfl) (ev1 rfl)) ?_
  refine zaf ?_
  refine dwp_if_f rfl (by rw [chkE_ok hc]; rfl) ?_
  refine dwp_skip ?_
  refine zae ?_
  refine zad ?_
  refine zab rfl rfl rfl (op_ldm rfl tb32 (ev1 rfl) rfl rfl) ?_
  refine zab rfl rfl rfl (op_len rfl sl32 (ev1 rfl)) ?_
  refine zab rfl rfl rfl (zac (.inl rfl) (ev1 rfl)) ?_
  refine zaf ?_
  refine dwp_block ?_
  refine dwp_loopS ⟨hs0, rfl⟩ (α := Nat) (fun i => [(10, .val (.int .i64 (i : Int)))]) [(0, _), (8, _), (9, _)] (fun i => []) [_, _, _, _] (fun i => i ≤ l.length ∧ (l.take i).all (fun s => goB s p) = true) (fun i => l.length - i) 0 [0, 1, 2, 3] (⟨Nat.zero_le _, rfl⟩) rfl ⟨rfl, rfl, rfl, trivial⟩ ⟨rfl, trivial⟩ ⟨rfl, rfl, rfl, rfl, trivial⟩ ?_
  intro i hx
  simp only [upd, zaa, za, List.cons_append, List.nil_append]
  obtain ⟨hi0, hall⟩ := hx
  refine zae ?_
  refine zad ?_
  refine zab rfl rfl rfl (op_lss rfl (ev1 rfl) (ev1 rfl)) ?_
  refine zaf ?_
  refine zae ?_
  refine dwp_cond rfl (fun c2 => ?_) (fun c2 => ?_)
  · try simp only [decide_eq_true_eq, decide_eq_false_iff_not, beq_iff_eq, bne_iff_ne, beq_eq_false_iff_ne, bne_eq_false_iff_eq, Bool.not_eq_true', Bool.not_eq_false', Bool.and_eq_true, Bool.or_eq_true, Bool.or_eq_false_iff, ne_eq, Decidable.not_not, Int.not_lt, Int.not_le] at c2
    refine dwp_skip ?_
    refine zae ?_
    refine dwp_block ?_
    refine zae ?_
    have hi : i < l.length := by omega
    refine dwp_holes 1 (by simp only [holes, List.cons_append, List.nil_append]; exact rfl) ?_
    refine zad ?_
    refine zab rfl rfl rfl (op_ixsr (j := i) rfl sl32 (ev1 rfl) (ev1 rfl) (fun _ => rfl) (by decide) (by omega) (by omega)) ?_
    refine zab rfl rfl rfl (op_ldwd rfl tb40 (ev1 rfl) rfl) ?_
    refine walk_w rfl rfl rfl (op_alloc 4 rfl zr40 rfl) (by simp only [upd, zaa, za]; exact rfl) ?_
    refine walk_s rfl rfl (op_stwa rfl tb40 (ev1 rfl) (ev1 rfl) rfl rfl rfl rfl) (by simp only [upd, zaa, za]; exact rfl) ?_
    refine zaf ?_
    refine zae ?_
    refine zad ?_
    refine zab rfl rfl rfl (zac (.inl rfl) (ev1 rfl)) ?_
    refine zab rfl rfl rfl (op_ldw rfl tb40 (ev1 rfl) rfl rfl) ?_
    refine walk_w rfl rfl rfl (op_y (i := 0) [0, 1, 2] [] [] rfl (ev1 rfl) (ec (ev1 rfl) en) rfl rfl rfl (hasRound l[i] p) rfl rfl rfl rfl rfl) (by simp only [upd, zaa, za]; exact rfl) ?_
    refine zab rfl rfl rfl (op_not rfl (ev1 rfl)) ?_
    refine zaf ?_
    refine dwp_cond rfl (fun c2 => ?_) (fun c2 => ?_)
    · have hg : goB l[i] p = false := by simpa using c2
      refine dwp_ret ?_
      have e1 := hasB_stop hc hi hall hg
      have e2 := all_no (q := fun s => goB s p) hi hg
      rw [e1, e2, hg]
      refine kend [0, 1, 2, 3] (res_none rfl) rfl rfl ?_ ⟨rfl, rfl, rfl, rfl, trivial⟩
      rfl
    · have hg : goB l[i] p = true := by simpa using c2
      refine dwp_skip ?_
      refine zad ?_
      refine zab rfl rfl rfl (op_add' rfl (ev1 rfl) (ev1 rfl) (fun _ => IntWalk.i64_in _ (by omega))) ?_
      refine zab rfl rfl rfl (zac (.inl rfl) (ev1 rfl)) ?_
      refine zaf ?_
      have hnh : hitB l[i] p = false := by unfold goB at hg; revert hg; cases hitB l[i] p <;> simp
      rw [hg, hnh]
      refine ⟨i + 1, [0, 1, 2, 3], ⟨by omega, all_add hi hall hg⟩, by simp only []; omega, rfl, ⟨rfl, rfl, rfl, rfl, trivial⟩, ⟨rfl, rfl, rfl, rfl, trivial⟩⟩
  · try simp only [decide_eq_true_eq, decide_eq_false_iff_not, beq_iff_eq, bne_iff_ne, beq_eq_false_iff_ne, bne_eq_false_iff_eq, Bool.not_eq_true', Bool.not_eq_false', Bool.and_eq_true, Bool.or_eq_true, Bool.or_eq_false_iff, ne_eq, Decidable.not_not, Int.not_lt, Int.not_le] at c2
    refine dwp_exit ?_
    rw [take_all (by omega)] at hall
    have e1 := hasB_end hall
    rw [e1, hall]
    refine kend [0, 1, 2, 3] (res_none rfl) rfl rfl ?_ ⟨rfl, rfl, rfl, rfl, trivial⟩
    rfl
set_option maxRecDepth 4000 in
set_option maxHeartbeats 1000000 in
theorem told_has_no (l : List Sp) (hc : ¬ chkS l) (p : P2) : DFun Try.prog 68 [.yld 0, .loc 3 0] [.lp 35 [(3, .loc 1 0), (5, .loc 2 0)] #[9] hsrA hsrB .ready none, .flat 25 [.int .i64 p.x, .int .i64 p.y], .flat 4 [.bool false], .mix 32 [.slf 3 (l).length ((l).flatMap s3)]] (.tup []) [.lp 35 [(3, .loc 1 0), (5, .loc 2 0)] #[9] hsrA hsrB .ready none, .flat 25 [.int .i64 p.x, .int .i64 p.y], .flat 4 [.bool false], .mix 32 [.slf 3 (l).length ((l).flatMap s3)]] := by
  refine dcalls_go (N := 19) 4 (by kernel_rfl) Try.func68 rfl rfl rfl (by simp only [fr0, Nat.zero_add, Nat.reduceAdd]; exact rfl) rfl fun s0 hs0 => ?_
  refine zae ?_
  refine zae ?_
  refine zad ?_
  refine zab rfl rfl rfl (op_ldm rfl tb32 (ev1 rfl) rfl rfl) ?_
  refine zab rfl rfl rfl (dop_call [] [] [] rfl (ev1 rfl) (ec (ev1 rfl) en) rfl rfl (check_d l) rfl rfl rfl rfl rfl rfl) ?_
  refine zab rfl rfl rfl (op_neq rfl (ev1 rfl) (ev1 rfl)) ?_
  refine zaf ?_
  refine dwp_if_t rfl (by rw [chkE_no hc]; rfl) ?_
  refine dwp_ret ?_
  refine kend [0, 1, 2, 3] (res_none rfl) rfl rfl ?_ ⟨rfl, rfl, rfl, rfl, trivial⟩
  rfl
set_option maxRecDepth 4000 in
set_option maxHeartbeats 1000000 in
theorem has_ok (l : List Sp) (hc : chkS l) (p : P2) : DFun Try.prog 33 [.slf 3 (l).length ((l).flatMap s3), .val (.agg #[.int .i64 p.x, .int .i64 p.y])] [] (.val (.bool (hasB l p))) [] := by
  refine dcalls_go (N := 35) 0 (by kernel_rfl) Try.func33 rfl rfl rfl (by simp only [fr0, Nat.zero_add, Nat.reduceAdd]; exact rfl) rfl fun s0 hs0 => ?_
  refine dwp_len (t := 0) rfl fun hl0 hL0 => ?_
  refine zae ?_
  refine dwp_holes 1 (by simp only [holes, List.cons_append, List.nil_append]; exact rfl) ?_
  refine zad ?_
  refine walk_w rfl rfl rfl (op_boxa 0 rfl (ev1 rfl) rfl) (by simp only [upd, zaa, za]; exact rfl) ?_
  refine zab rfl rfl rfl (zac (.inr rfl) (ev1 rfl)) ?_
  refine zaf ?_
  refine dwp_scope ?_
  refine zae ?_
  refine dwp_holes 1 (by simp only [holes, List.cons_append, List.nil_append]; exact rfl) ?_
  refine zad ?_
  refine walk_w rfl rfl rfl (op_alloc 1 rfl zr4 rfl) (by simp only [upd, zaa, za]; exact rfl) ?_
  refine walk_s rfl rfl (op_stwb rfl tb4 (ev1 rfl) (ev1 rfl) rfl) (by simp only [upd, zaa, za]; exact rfl) ?_
  refine zaf ?_
  refine zae ?_
  refine dwp_label ?_
  refine zae ?_
  refine zae ?_
  refine dwp_holes 1 (by simp only [holes, List.cons_append, List.nil_append]; exact rfl) ?_
  refine zad ?_
  refine zab rfl rfl rfl (zac (.inl rfl) (ev1 rfl)) ?_
  refine walk_w rfl rfl rfl (dop_call [] [] [2] rfl (ev1 rfl) (ec (ev1 rfl) en) rfl rfl (told_d l) rfl rfl rfl rfl rfl rfl) (by simp only [upd, zaa, za]; exact rfl) ?_
  refine zaf ?_
  refine dwp_block ?_
  refine dwp_hole ?_
  simp only [List.cons_append, List.nil_append]
  refine dwp_rf (FL := [(3, _), (5, _)]) (st := (rst (l.all fun s => goB s p))) (pe := (rpe (.exit 0) (l.all fun s => goB s p))) [3, 0, 1, 2] [] [] 3 rfl rfl (ev1 rfl) rfl (subF_lk ⟨rfl, rfl, trivial⟩) rfl rfl rfl (told_has l hc p hl0) rfl rfl rfl rfl rfl rfl rfl (rst_busy _) (fun e => ?_) (fun c e => ?_)
  · simp only [upd, zaa, za]
    refine zae ?_
    refine zad ?_
    refine zab rfl rfl rfl (op_ldo rfl tb4 (ev1 rfl) rfl rfl) ?_
    refine zab rfl rfl rfl (zac (.inr rfl) (ev1 rfl)) ?_
    refine zaf ?_
    refine dwp_ret ?_
    refine kend0 (rs1 rfl (rv_t rfl)) rfl ?_
    rfl
  · obtain ⟨e1, rfl⟩ : (l.all fun s => goB s p) = false ∧ c = .exit 0 := by
      cases h : (l.all fun s => goB s p) <;> simp_all [rpe]
    simp only [upd, zaa, za]
    refine dwp_exit ?_
    refine zae ?_
    refine zad ?_
    refine zab rfl rfl rfl (op_ldo rfl tb4 (ev1 rfl) rfl rfl) ?_
    refine zab rfl rfl rfl (zac (.inr rfl) (ev1 rfl)) ?_
    refine zaf ?_
    refine dwp_ret ?_
    refine kend0 (rs1 rfl (rv_t rfl)) rfl ?_
    rfl
set_option maxRecDepth 4000 in
set_option maxHeartbeats 1000000 in
theorem has_no (l : List Sp) (hc : ¬ chkS l) (p : P2) : DFun Try.prog 33 [.slf 3 (l).length ((l).flatMap s3), .val (.agg #[.int .i64 p.x, .int .i64 p.y])] [] (.val (.bool false)) [] := by
  refine dcalls_go (N := 35) 0 (by kernel_rfl) Try.func33 rfl rfl rfl (by simp only [fr0, Nat.zero_add, Nat.reduceAdd]; exact rfl) rfl fun s0 hs0 => ?_
  refine dwp_len (t := 0) rfl fun hl0 hL0 => ?_
  refine zae ?_
  refine dwp_holes 1 (by simp only [holes, List.cons_append, List.nil_append]; exact rfl) ?_
  refine zad ?_
  refine walk_w rfl rfl rfl (op_boxa 0 rfl (ev1 rfl) rfl) (by simp only [upd, zaa, za]; exact rfl) ?_
  refine zab rfl rfl rfl (zac (.inr rfl) (ev1 rfl)) ?_
  refine zaf ?_
  refine dwp_scope ?_
  refine zae ?_
  refine dwp_holes 1 (by simp only [holes, List.cons_append, List.nil_append]; exact rfl) ?_
  refine zad ?_
  refine walk_w rfl rfl rfl (op_alloc 1 rfl zr4 rfl) (by simp only [upd, zaa, za]; exact rfl) ?_
  refine walk_s rfl rfl (op_stwb rfl tb4 (ev1 rfl) (ev1 rfl) rfl) (by simp only [upd, zaa, za]; exact rfl) ?_
  refine zaf ?_
  refine zae ?_
  refine dwp_label ?_
  refine zae ?_
  refine zae ?_
  refine dwp_holes 1 (by simp only [holes, List.cons_append, List.nil_append]; exact rfl) ?_
  refine zad ?_
  refine zab rfl rfl rfl (zac (.inl rfl) (ev1 rfl)) ?_
  refine walk_w rfl rfl rfl (dop_call [] [] [2] rfl (ev1 rfl) (ec (ev1 rfl) en) rfl rfl (told_d l) rfl rfl rfl rfl rfl rfl) (by simp only [upd, zaa, za]; exact rfl) ?_
  refine zaf ?_
  refine dwp_block ?_
  refine dwp_hole ?_
  simp only [List.cons_append, List.nil_append]
  refine dwp_rf (FL := [(3, _), (5, _)]) (st := .ready) (pe := none) [3, 0, 1, 2] [] [] 3 rfl rfl (ev1 rfl) rfl (subF_lk ⟨rfl, rfl, trivial⟩) rfl rfl rfl (told_has_no l hc p) rfl rfl rfl rfl rfl rfl rfl (by simp) (fun e => ?_) (fun c e => ?_)
  · simp only [upd, zaa, za]
    refine zae ?_
    refine zad ?_
    refine zab rfl rfl rfl (op_ldo rfl tb4 (ev1 rfl) rfl rfl) ?_
    refine zab rfl rfl rfl (zac (.inr rfl) (ev1 rfl)) ?_
    refine zaf ?_
    refine dwp_ret ?_
    refine kend0 (rs1 rfl (rv_t rfl)) rfl ?_
    rfl
  · cases e
def hasL (l : List Sp) (p : P2) : Bool := decide (chkS l) && hasB l p
theorem has_d (l : List Sp) (p : P2) : DFun Try.prog 33 [.slf 3 (l).length ((l).flatMap s3), .val (.agg #[.int .i64 p.x, .int .i64 p.y])] [] (.val (.bool (hasL l p))) [] := by
  by_cases hc : chkS l
  · have e : hasL l p = hasB l p := by unfold hasL; rw [decide_eq_true hc]; rfl
    rw [e]; exact has_ok l hc p
  · have e : hasL l p = false := by unfold hasL; rw [decide_eq_false hc]; rfl
    rw [e]; exact has_no l hc p
end Go.Proofs.Ytoffbkjhoelghaa
namespace Go.Proofs.Ytoffbkjhoelghaa
set_option maxRecDepth 4000
set_option linter.unusedVariables false
set_option linter.unusedSimpArgs false
open Go.RowKit
set_option maxRecDepth 4000 in
set_option maxHeartbeats 1000000 in
theorem cloneS (l : List Sp) (h : l.length ≤ 5000) : DFun Try.prog 50 [.slf 3 l.length (l.flatMap s3)] [] (.arr 0) [.arr 40 3 l.length (l.flatMap s3)] := by
  refine dcalls_go (N := 8) 0 (by kernel_rfl) Try.func50 rfl rfl rfl (by simp only [fr0, Nat.zero_add, Nat.reduceAdd]; exact rfl) rfl fun s0 hs0 => ?_
  refine dwp_len (t := 0) rfl fun hl0 hL0 => ?_
  refine zae ?_
  refine zad ?_
  refine zab rfl rfl rfl (zac (.inr rfl) (ev1 rfl)) ?_
  refine zaf ?_
  refine zae ?_
  refine zae ?_
  refine zad ?_
  refine zab rfl rfl rfl (zac (.inl rfl) (ev1 rfl)) ?_
  refine walk_nil? rfl rfl rfl rfl sl32 (ev1 rfl) fun nb4 hnb4 => ?_
  refine zaf ?_
  refine dwp_cond rfl (fun c1 => ?_) (fun c1 => ?_)
  · try simp only [decide_eq_true_eq, decide_eq_false_iff_not, beq_iff_eq, bne_iff_ne, beq_eq_false_iff_ne, bne_eq_false_iff_eq, Bool.not_eq_true', Bool.not_eq_false', Bool.and_eq_true, Bool.or_eq_true, Bool.or_eq_false_iff, ne_eq, Decidable.not_not, Int.not_lt, Int.not_le] at c1
    refine zae ?_
    refine zad ?_
    refine zab rfl rfl rfl (zac (.inr rfl) (ev1 rfl)) ?_
    refine zaf ?_
    refine dwp_adopt 2 40 3 rfl rfl rfl ?_
    refine dwp_ret ?_
    refine kend [0] (rs1 rfl (rv_t rfl)) rfl rfl ?_ ⟨?_, trivial⟩
    rfl
    exact (by obtain ⟨h1, h2⟩ := hnb4 c1; simp_all [MFits, vwB])
  · try simp only [decide_eq_true_eq, decide_eq_false_iff_not, beq_iff_eq, bne_iff_ne, beq_eq_false_iff_ne, bne_eq_false_iff_eq, Bool.not_eq_true', Bool.not_eq_false', Bool.and_eq_true, Bool.or_eq_true, Bool.or_eq_false_iff, ne_eq, Decidable.not_not, Int.not_lt, Int.not_le] at c1
    refine dwp_skip ?_
    refine zae ?_
    refine dwp_holes 2 (by simp only [holes, List.cons_append, List.nil_append]; exact rfl) ?_
    refine zad ?_
    refine walk_w rfl rfl rfl (op_bsa (ps := []) 0 rfl sl32 zr40 rfl vn rfl (by decide) (by decide) rfl) (by simp only [upd, zaa, za]; exact rfl) ?_
    refine zab rfl rfl rfl (zac (.inl rfl) (ev1 rfl)) ?_
    refine walk_w rfl rfl rfl (op_app (j := 1) rfl sl32 zr40 rfl (ev1 rfl) (ev1 rfl) src_slf rfl rfl (fun _ => flat_oc (fun _ => rfl) l) (fun _ => ⟨by omega, by omega⟩)) (by simp only [upd, zaa, za]; exact rfl) ?_
    refine zab rfl rfl rfl (zac (.inr rfl) (ev1 rfl)) ?_
    refine zaf ?_
    refine dwp_ret ?_
    refine kend [1] (rs1 rfl (rv_t rfl)) rfl rfl ?_ ⟨?_, trivial⟩
    rfl
    simp [vwB]
theorem cloneS_f (l : List Sp) (h : l.length ≤ 5000) : DFun Try.prog 50 [.slf 3 l.length (l.flatMap s3)] [] (.slf 3 l.length (l.flatMap s3)) [] := freeze (cloneS l h) rfl
set_option maxRecDepth 4000 in
set_option maxHeartbeats 1000000 in
theorem all_d (l : List Sp) (h : l.length ≤ 5000) : DFun Try.prog 30 [.slf 3 (l).length ((l).flatMap s3)] [] (.fn (.func 54) [] [.loc 0 0]) [.mix 32 [.slf 3 (l).length ((l).flatMap s3)]] := by
  refine dcalls_go (N := 7) 0 (by kernel_rfl) Try.func30 rfl rfl rfl (by simp only [fr0, Nat.zero_add, Nat.reduceAdd]; exact rfl) rfl fun s0 hs0 => ?_
  refine dwp_len (t := 0) rfl fun hl0 hL0 => ?_
  refine zae ?_
  refine zad ?_
  refine zab rfl rfl rfl (zac (.inr rfl) (ev1 rfl)) ?_
  refine zaf ?_
  refine zae ?_
  refine dwp_holes 1 (by simp only [holes, List.cons_append, List.nil_append]; exact rfl) ?_
  refine zad ?_
  refine zab rfl rfl rfl (zac (.inl rfl) (ev1 rfl)) ?_
  refine zab rfl rfl rfl (dop_call [] [] [] rfl (ev1 rfl) (ec (ev1 rfl) en) rfl rfl (cloneS_f l h) rfl rfl rfl rfl rfl rfl) ?_
  refine walk_w rfl rfl rfl (op_alloc 0 rfl zr32 rfl) (by simp only [upd, zaa, za]; exact rfl) ?_
  refine walk_s rfl rfl (op_stfm rfl tb32 (ev1 rfl) (ev1 rfl) (fun s v h => by cases h <;> exact ⟨rfl, rfl⟩) rfl (by decide)) (by simp only [upd, zaa, za]; exact rfl) ?_
  refine zaf ?_
  refine zae ?_
  refine zad ?_
  refine zab rfl rfl rfl (op_mkf rfl en (ec (ev1 rfl) en)) ?_
  refine zab rfl rfl rfl (zac (.inr rfl) (ev1 rfl)) ?_
  refine zaf ?_
  refine dwp_ret ?_
  refine kend [0] (rs1 rfl (rv_t rfl)) rfl rfl ?_ ⟨rfl, trivial⟩
  rfl
def ptsL (l : List Sp) : List P2 := if chkS l then ptsS l else []
theorem ptsL_ok {l : List Sp} (h : chkS l) : ptsL l = ptsS l := if_pos h
theorem ptsL_no {l : List Sp} (h : ¬ chkS l) : ptsL l = [] := if_neg h
theorem pts_wd (s : Sp) : s.pts.length = s.wd := by unfold Sp.pts; simp
theorem pts_add {s : Sp} {k : Nat} (hk : k < s.wd) : s.pts.take (k + 1) = s.pts.take k ++ [⟨s.f + (k : Int), s.y⟩] := by
  rw [List.take_succ_eq_append_getElem (by rw [pts_wd]; exact hk)]
  congr 1
  unfold Sp.pts
  simp
theorem ptsS_add {l : List Sp} {i : Nat} (hi : i < l.length) : ptsS (l.take (i + 1)) = ptsS (l.take i) ++ l[i].pts := by
  unfold ptsS
  rw [List.take_succ_eq_append_getElem hi, List.flatMap_append]
  simp
theorem pts_mem2 {l : List Sp} {i k : Nat} (hi : i < l.length) (hk : k < l[i].wd) : (⟨l[i].f + (k : Int), l[i].y⟩ : P2) ∈ ptsS l := by
  refine List.mem_flatMap.2 ⟨l[i], List.getElem_mem hi, List.mem_map.2 ⟨k, List.mem_range.2 hk, rfl⟩⟩
end Go.Proofs.Ytoffbkjhoelghaa
namespace Go.Proofs.Ytoffbkjhoelghaa
set_option maxRecDepth 4000
set_option linter.unusedVariables false
set_option linter.unusedSimpArgs false
open Go.RowKit
open Go.ChangeShapes Go.WideShapes Go.ChangeAt Go.Joins Go.Deep
theorem fits_p2 (cs : List Value) (h : fitsP [.int .i64, .int .i64] cs) : ∃ p : P2, p.rng ∧ cs = p2 p := by
  obtain ⟨x0, r, rfl, h0, g1⟩ := fitsP_cons h
  obtain ⟨x1, r, rfl, h1, g2⟩ := fitsP_cons g1
  obtain rfl := fitsP_nil g2
  obtain ⟨x, wx, rfl⟩ := fits_prim_i64 h0
  obtain ⟨y, wy, rfl⟩ := fits_prim_i64 h1
  exact ⟨⟨x, y⟩, ⟨wx, wy⟩, rfl⟩
theorem fits_s3 (cs : List Value) (h : fitsP [.int .i64, .int .i64, .int .i64] cs) : ∃ p : Sp, p.rng ∧ cs = s3 p := by
  obtain ⟨x0, r, rfl, h0, g1⟩ := fitsP_cons h
  obtain ⟨x1, r, rfl, h1, g2⟩ := fitsP_cons g1
  obtain ⟨x2, r, rfl, h2, g3⟩ := fitsP_cons g2
  obtain rfl := fitsP_nil g3
  obtain ⟨x, wx, rfl⟩ := fits_prim_i64 h0
  obtain ⟨y, wy, rfl⟩ := fits_prim_i64 h1
  obtain ⟨z, wz, rfl⟩ := fits_prim_i64 h2
  exact ⟨⟨x, y, z⟩, ⟨wx, wy, wz⟩, rfl⟩
end Go.Proofs.Ytoffbkjhoelghaa
namespace Go.Proofs.Ytoffbkjhoelghaa
set_option maxRecDepth 4000
set_option linter.unusedVariables false
set_option linter.unusedSimpArgs false
open Go.RowKit
noncomputable def unrA : Code := rfA (pth [1, 1, 1, 1, 1, 1, 1, 1, 1, 1, 0, 1, 0] (bodyOf Try.f7))
noncomputable def unrB : Code := rfB (pth [1, 1, 1, 1, 1, 1, 1, 1, 1, 1, 0, 1, 0] (bodyOf Try.f7))
theorem filt_add (q : P2 → Bool) (P : List P2) (p : P2) : ((P ++ [p]).filter q).length = (P.filter q).length + if q p = true then 1 else 0 := by
  rw [List.filter_append, List.length_append]
  congr 1
  by_cases e : q p = true <;> simp [e]
set_option maxRecDepth 4000 in
set_option maxHeartbeats 1000000 in
theorem unRound_yes (b u : List Sp) (p : P2) (P : List P2) (hP : P.length ≤ 1000000000) (hu : hasL u p = true) (hb : hasL b p = true) : DRound Try.prog 0 [.val (.agg #[.int .i64 p.x, .int .i64 p.y])] [.lp 134 [(6, .loc 1 0), (8, .loc 2 0), (9, .loc 3 0), (17, .loc 4 0)] #[100] unrA unrB .ready none, .flat 4 [.bool false], .mix 32 [.slf 3 (b).length ((b).flatMap s3)], .mix 32 [.slf 3 (u).length ((u).flatMap s3)], .flat 3 [.int .i64 (((P.filter fun p => hasL b p).length : Nat) : Int)]] true [.lp 134 [(6, .loc 1 0), (8, .loc 2 0), (9, .loc 3 0), (17, .loc 4 0)] #[100] unrA unrB .ready none, .flat 4 [.bool false], .mix 32 [.slf 3 (b).length ((b).flatMap s3)], .mix 32 [.slf 3 (u).length ((u).flatMap s3)], .flat 3 [.int .i64 ((((P ++ [p]).filter fun p => hasL b p).length : Nat) : Int)]] := by
  have hfl : (P.filter fun p => hasL b p).length ≤ P.length := List.length_filter_le ..
  have hadd := filt_add (fun p => hasL b p) P p
  rw [if_pos hb] at hadd
  refine dround_go 5 rfl rfl (by simp) rfl rfl fun s0 hs0 => ?_
  refine dwp_holes 1 (by simp only [holes, List.cons_append, List.nil_append]; exact rfl) ?_
  refine zad ?_
  refine walk_w rfl rfl rfl (op_alloc 5 rfl zr25 rfl) (by simp only [upd, zaa, za]; exact rfl) ?_
  refine walk_s rfl rfl (op_stwa rfl tb25 (ev1 rfl) (ev1 rfl) rfl rfl rfl rfl) (by simp only [upd, zaa, za]; exact rfl) ?_
  refine zaf ?_
  refine ⟨rfl, ?_⟩
  simp only [zaa, za]
  refine dwp_block ?_
  refine zae ?_
  refine zae ?_
  refine zad ?_
  refine zab rfl rfl rfl (op_ldm rfl tb32 (ev1 rfl) rfl rfl) ?_
  refine zab rfl rfl rfl (op_ldw rfl tb25 (ev1 rfl) rfl rfl) ?_
  refine zab rfl rfl rfl (dop_call [] [] [] rfl (ev1 rfl) (ec (ev1 rfl) (ec (ev1 rfl) en)) rfl rfl (has_d u p) rfl rfl rfl rfl rfl rfl) ?_
  refine zab rfl rfl rfl (op_not rfl (ev1 rfl)) ?_
  refine zaf ?_
  refine dwp_if_f rfl (by rw [hu]; rfl) ?_
  refine dwp_skip ?_
  refine zae ?_
  refine zad ?_
  refine zab rfl rfl rfl (op_ldm rfl tb32 (ev1 rfl) rfl rfl) ?_
  refine zab rfl rfl rfl (op_ldw rfl tb25 (ev1 rfl) rfl rfl) ?_
  refine zab rfl rfl rfl (dop_call [] [] [] rfl (ev1 rfl) (ec (ev1 rfl) (ec (ev1 rfl) en)) rfl rfl (has_d b p) rfl rfl rfl rfl rfl rfl) ?_
  refine zaf ?_
  refine dwp_if_t rfl (hb) ?_
  refine zad ?_
  refine zab rfl rfl rfl (op_ldo rfl tb3 (ev1 rfl) rfl rfl) ?_
  refine zab rfl rfl rfl (op_add' rfl (ev1 rfl) (ev1 rfl) (fun _ => IntWalk.i64_in _ (by omega))) ?_
  refine walk_s rfl rfl (op_stwi rfl tb3 (ev1 rfl) (ev1 rfl) rfl) (by simp only [upd, zaa, za]; exact rfl) ?_
  refine zaf ?_
  refine ⟨by first | rfl | assumption | simp_all, rfl, [0, 1, 2, 3, 4], rfl, ⟨rfl, rfl, rfl, rfl, by rw [hadd]; rfl, trivial⟩⟩
set_option maxRecDepth 4000 in
set_option maxHeartbeats 1000000 in
theorem unRound_no (b u : List Sp) (p : P2) (P : List P2) (hP : P.length ≤ 1000000000) (hu : hasL u p = true) (hb : hasL b p = false) : DRound Try.prog 0 [.val (.agg #[.int .i64 p.x, .int .i64 p.y])] [.lp 134 [(6, .loc 1 0), (8, .loc 2 0), (9, .loc 3 0), (17, .loc 4 0)] #[100] unrA unrB .ready none, .flat 4 [.bool false], .mix 32 [.slf 3 (b).length ((b).flatMap s3)], .mix 32 [.slf 3 (u).length ((u).flatMap s3)], .flat 3 [.int .i64 (((P.filter fun p => hasL b p).length : Nat) : Int)]] true [.lp 134 [(6, .loc 1 0), (8, .loc 2 0), (9, .loc 3 0), (17, .loc 4 0)] #[100] unrA unrB .ready none, .flat 4 [.bool false], .mix 32 [.slf 3 (b).length ((b).flatMap s3)], .mix 32 [.slf 3 (u).length ((u).flatMap s3)], .flat 3 [.int .i64 ((((P ++ [p]).filter fun p => hasL b p).length : Nat) : Int)]] := by
  have hfl : (P.filter fun p => hasL b p).length ≤ P.length := List.length_filter_le ..
  have hadd := filt_add (fun p => hasL b p) P p
  rw [if_neg (by rw [hb]; decide)] at hadd
  refine dround_go 5 rfl rfl (by simp) rfl rfl fun s0 hs0 => ?_
  refine dwp_holes 1 (by simp only [holes, List.cons_append, List.nil_append]; exact rfl) ?_
  refine zad ?_
  refine walk_w rfl rfl rfl (op_alloc 5 rfl zr25 rfl) (by simp only [upd, zaa, za]; exact rfl) ?_
  refine walk_s rfl rfl (op_stwa rfl tb25 (ev1 rfl) (ev1 rfl) rfl rfl rfl rfl) (by simp only [upd, zaa, za]; exact rfl) ?_
  refine zaf ?_
  refine ⟨rfl, ?_⟩
  simp only [zaa, za]
  refine dwp_block ?_
  refine zae ?_
  refine zae ?_
  refine zad ?_
  refine zab rfl rfl rfl (op_ldm rfl tb32 (ev1 rfl) rfl rfl) ?_
  refine zab rfl rfl rfl (op_ldw rfl tb25 (ev1 rfl) rfl rfl) ?_
  refine zab rfl rfl rfl (dop_call [] [] [] rfl (ev1 rfl) (ec (ev1 rfl) (ec (ev1 rfl) en)) rfl rfl (has_d u p) rfl rfl rfl rfl rfl rfl) ?_
  refine zab rfl rfl rfl (op_not rfl (ev1 rfl)) ?_
  refine zaf ?_
  refine dwp_if_f rfl (by rw [hu]; rfl) ?_
  refine dwp_skip ?_
  refine zae ?_
  refine zad ?_
  refine zab rfl rfl rfl (op_ldm rfl tb32 (ev1 rfl) rfl rfl) ?_
  refine zab rfl rfl rfl (op_ldw rfl tb25 (ev1 rfl) rfl rfl) ?_
  refine zab rfl rfl rfl (dop_call [] [] [] rfl (ev1 rfl) (ec (ev1 rfl) (ec (ev1 rfl) en)) rfl rfl (has_d b p) rfl rfl rfl rfl rfl rfl) ?_
  refine zaf ?_
  refine dwp_if_f rfl (hb) ?_
  refine dwp_skip ?_
  refine ⟨by first | rfl | assumption | simp_all, rfl, [0, 1, 2, 3, 4], rfl, ⟨rfl, rfl, rfl, rfl, by rw [hadd]; rfl, trivial⟩⟩
theorem unRound (b u : List Sp) (p : P2) (P : List P2) (hP : P.length ≤ 1000000000) (hu : hasL u p = true) : DRound Try.prog 0 [.val (.agg #[.int .i64 p.x, .int .i64 p.y])] [.lp 134 [(6, .loc 1 0), (8, .loc 2 0), (9, .loc 3 0), (17, .loc 4 0)] #[100] unrA unrB .ready none, .flat 4 [.bool false], .mix 32 [.slf 3 (b).length ((b).flatMap s3)], .mix 32 [.slf 3 (u).length ((u).flatMap s3)], .flat 3 [.int .i64 (((P.filter fun p => hasL b p).length : Nat) : Int)]] true [.lp 134 [(6, .loc 1 0), (8, .loc 2 0), (9, .loc 3 0), (17, .loc 4 0)] #[100] unrA unrB .ready none, .flat 4 [.bool false], .mix 32 [.slf 3 (b).length ((b).flatMap s3)], .mix 32 [.slf 3 (u).length ((u).flatMap s3)], .flat 3 [.int .i64 ((((P ++ [p]).filter fun p => hasL b p).length : Nat) : Int)]] := by
  cases hb : hasL b p with
  | true => exact unRound_yes b u p P hP hu hb
  | false => exact unRound_no b u p P hP hu hb
noncomputable def alrA : Code := rfA (pth [1, 1, 0] (bodyOf Try.f54))
noncomputable def alrB : Code := rfB (pth [1, 1, 0] (bodyOf Try.f54))
set_option maxRecDepth 4000 in
set_option maxHeartbeats 1000000 in
theorem un_span (l b u : List Sp) (hl : l.length ≤ 1000000) (hu : ∀ p ∈ ptsS l, hasL u p = true) (s : Sp) (hs : rchS s ∧ s.f ≤ s.t) (P : List P2) (hP : P.length + s.wd ≤ 1000000000) (hm : ∀ k : Nat, k < s.wd → (⟨s.f + (k : Int), s.y⟩ : P2) ∈ ptsS l) : DRound Try.prog 0 [.val (.agg (s3 s).toArray)] [.lp 23 [(2, .loc 1 0)] #[7] alrA alrB .ready none, .mix 27 [.yld 2], .lp 134 [(6, .loc 3 0), (8, .loc 4 0), (9, .loc 5 0), (17, .loc 6 0)] #[100] unrA unrB .ready none, .flat 4 [.bool false], .mix 32 [.slf 3 (b).length ((b).flatMap s3)], .mix 32 [.slf 3 (u).length ((u).flatMap s3)], .flat 3 [.int .i64 (((P.filter fun p => hasL b p).length : Nat) : Int)]] true [.lp 23 [(2, .loc 1 0)] #[7] alrA alrB .ready none, .mix 27 [.yld 2], .lp 134 [(6, .loc 3 0), (8, .loc 4 0), (9, .loc 5 0), (17, .loc 6 0)] #[100] unrA unrB .ready none, .flat 4 [.bool false], .mix 32 [.slf 3 (b).length ((b).flatMap s3)], .mix 32 [.slf 3 (u).length ((u).flatMap s3)], .flat 3 [.int .i64 ((((P ++ s.pts).filter fun p => hasL b p).length : Nat) : Int)]] := by
  obtain ⟨hr, hft⟩ := hs
  have hr2 := hr
  unfold rchS at hr2
  have hwd : (s.wd : Int) = s.t - s.f + 1 := by unfold Sp.wd; omega
  have hpw := pts_wd s
  refine dround_go 7 rfl rfl (by simp) rfl rfl fun s0 hs0 => ?_
  refine dwp_holes 1 (by simp only [holes, List.cons_append, List.nil_append]; exact rfl) ?_
  refine zad ?_
  refine walk_w rfl rfl rfl (op_alloc 7 rfl zr40 rfl) (by simp only [upd, zaa, za]; exact rfl) ?_
  refine walk_s rfl rfl (op_stwa rfl tb40 (ev1 rfl) (ev1 rfl) rfl rfl rfl rfl) (by simp only [upd, zaa, za]; exact rfl) ?_
  refine zaf ?_
  refine ⟨rfl, ?_⟩
  simp only [zaa, za]
  refine dwp_block ?_
  refine zae ?_
  refine zad ?_
  refine zab rfl rfl rfl (op_fa rfl fo40_1 (ev1 rfl)) ?_
  refine zab rfl rfl rfl (op_ldo rfl tb3 (ev1 rfl) rfl rfl) ?_
  refine zab rfl rfl rfl (zac (.inr rfl) (ev1 rfl)) ?_
  refine zaf ?_
  refine dwp_block ?_
  refine dwp_loopS ⟨hs0, rfl⟩ (α := Nat) (fun k => [(4, .val (.int .i64 (s.f + (k : Int))))]) [(2, _), (3, _)] (fun k => [(6, .flat 3 [.int .i64 ((((P ++ s.pts.take k).filter fun p => hasL b p).length : Nat) : Int)])]) [_, _, _, _, _, _, .hole, _] (fun k => k ≤ s.wd) (fun k => s.wd - k) 0 [0, 1, 2, 3, 4, 5, 6, 7] (Nat.zero_le _) rfl ⟨rfl, rfl, trivial⟩ ⟨congrArg (fun z => some (D.val (.int .i64 z))) (by first | rfl | omega), trivial⟩ ⟨rfl, rfl, rfl, rfl, rfl, rfl, by rw [List.take_zero, List.append_nil]; rfl, rfl, trivial⟩ ?_
  intro k hx
  simp only [upd, zaa, za, List.cons_append, List.nil_append]
  have hk0 := hx
  refine zae ?_
  refine zae ?_
  refine zad ?_
  refine zab rfl rfl rfl (zac (.inl rfl) (ev1 rfl)) ?_
  refine zab rfl rfl rfl (op_fa rfl fo40_2 (ev1 rfl)) ?_
  refine zab rfl rfl rfl (op_ldo rfl tb3 (ev1 rfl) rfl rfl) ?_
  refine zab rfl rfl rfl (op_leq rfl (ev1 rfl) (ev1 rfl)) ?_
  refine zaf ?_
  refine dwp_cond rfl (fun c1 => ?_) (fun c1 => ?_)
  · try simp only [decide_eq_true_eq, decide_eq_false_iff_not, beq_iff_eq, bne_iff_ne, beq_eq_false_iff_ne, bne_eq_false_iff_eq, Bool.not_eq_true', Bool.not_eq_false', Bool.and_eq_true, Bool.or_eq_true, Bool.or_eq_false_iff, ne_eq, Decidable.not_not, Int.not_lt, Int.not_le] at c1
    refine dwp_skip ?_
    refine zae ?_
    refine dwp_block ?_
    refine zae ?_
    have hk : k < s.wd := by omega
    have hq := hm k hk
    refine zad ?_
    refine zab rfl rfl rfl (op_ldm rfl tb27 (ev1 rfl) rfl rfl) ?_
    refine zab rfl rfl rfl (zac (.inl rfl) (ev1 rfl)) ?_
    refine zab rfl rfl rfl (op_fa rfl fo40_0 (ev1 rfl)) ?_
    refine zab rfl rfl rfl (op_ldo rfl tb3 (ev1 rfl) rfl rfl) ?_
    refine zab rfl rfl rfl (op_build (ps := [(0, .tmp 17), (1, .tmp 19)]) rfl fl25 zr25 (vc (ev1 rfl) (vc (ev1 rfl) vn)) rfl rfl) ?_
    refine walk_w rfl rfl rfl (op_y (i := 0) [2, 3, 4, 5, 6] [] [] rfl (ev1 rfl) (ec (ev1 rfl) en) rfl rfl rfl (unRound b u ⟨s.f + (k : Int), s.y⟩ (P ++ s.pts.take k) (by have := List.length_take_le k s.pts; rw [List.length_append]; omega) (hu _ hq)) rfl rfl rfl rfl rfl) (by simp only [upd, zaa, za]; exact rfl) ?_
    refine zab rfl rfl rfl (op_not rfl (ev1 rfl)) ?_
    refine zaf ?_
    refine dwp_if_f rfl (rfl) ?_
    refine dwp_skip ?_
    refine zad ?_
    refine zab rfl rfl rfl (zac (.inl rfl) (ev1 rfl)) ?_
    refine zab rfl rfl rfl (op_add' rfl (ev1 rfl) (ev1 rfl) (fun _ => IntWalk.i64_in _ (by omega))) ?_
    refine zab rfl rfl rfl (zac (.inr rfl) (ev1 rfl)) ?_
    refine zaf ?_
    refine ⟨k + 1, [0, 1, 2, 3, 4, 5, 6, 7], by omega, by simp only []; omega, rfl, ⟨congrArg (fun z => some (D.val (.int .i64 z))) (by first | rfl | omega), rfl, rfl, trivial⟩, ⟨rfl, rfl, rfl, rfl, rfl, rfl, by rw [pts_add hk, ← List.append_assoc]; rfl, rfl, trivial⟩⟩
  · try simp only [decide_eq_true_eq, decide_eq_false_iff_not, beq_iff_eq, bne_iff_ne, beq_eq_false_iff_ne, bne_eq_false_iff_eq, Bool.not_eq_true', Bool.not_eq_false', Bool.and_eq_true, Bool.or_eq_true, Bool.or_eq_false_iff, ne_eq, Decidable.not_not, Int.not_lt, Int.not_le] at c1
    refine dwp_exit ?_
    obtain rfl : k = s.wd := by omega
    rw [show s.pts.take s.wd = s.pts from List.take_of_length_le (by omega)]
    refine ⟨by first | rfl | assumption | simp_all, rfl, [0, 1, 2, 3, 4, 5, 6], rfl, ⟨rfl, rfl, rfl, rfl, rfl, rfl, rfl, trivial⟩⟩
set_option maxRecDepth 4000 in
set_option maxHeartbeats 1000000 in
theorem un_told (l b u : List Sp) (hl : l.length ≤ 1000000) (hu : ∀ p ∈ ptsS l, hasL u p = true) (hl0 : l.length ≤ 9223372036854775807) (hc : chkS l) : DFun Try.prog 68 [.yld 0, .loc 7 0] [.lp 23 [(2, .loc 1 0)] #[7] alrA alrB .ready none, .mix 27 [.yld 2], .lp 134 [(6, .loc 3 0), (8, .loc 4 0), (9, .loc 5 0), (17, .loc 6 0)] #[100] unrA unrB .ready none, .flat 4 [.bool false], .mix 32 [.slf 3 (b).length ((b).flatMap s3)], .mix 32 [.slf 3 (u).length ((u).flatMap s3)], .flat 3 [.int .i64 (((([] : List P2).filter fun p => hasL b p).length : Nat) : Int)], .mix 32 [.slf 3 (l).length ((l).flatMap s3)]] (.tup []) [.lp 23 [(2, .loc 1 0)] #[7] alrA alrB .ready none, .mix 27 [.yld 2], .lp 134 [(6, .loc 3 0), (8, .loc 4 0), (9, .loc 5 0), (17, .loc 6 0)] #[100] unrA unrB .ready none, .flat 4 [.bool false], .mix 32 [.slf 3 (b).length ((b).flatMap s3)], .mix 32 [.slf 3 (u).length ((u).flatMap s3)], .flat 3 [.int .i64 ((((ptsS l).filter fun p => hasL b p).length : Nat) : Int)], .mix 32 [.slf 3 (l).length ((l).flatMap s3)]] := by
  refine dcalls_go (N := 19) 8 (by kernel_rfl) Try.func68 rfl rfl rfl (by simp only [fr0, Nat.zero_add, Nat.reduceAdd]; exact rfl) rfl fun s0 hs0 => ?_
  refine zae ?_
  refine zae ?_
  refine zad ?_
  refine zab rfl rfl rfl (op_ldm rfl tb32 (ev1 rfl) rfl rfl) ?_
  refine zab rfl rfl rfl (dop_call [] [] [] rfl (ev1 rfl) (ec (ev1 rfl) en) rfl rfl (check_d l) rfl rfl rfl rfl rfl rfl) ?_
  refine zab rfl rfl rfl (op_neq rfl (ev1 rfl) (ev1 rfl)) ?_
  refine zaf ?_
  refine dwp_if_f rfl (by rw [chkE_ok hc]; rfl) ?_
  refine dwp_skip ?_
  refine zae ?_
  refine zad ?_
  refine zab rfl rfl rfl (op_ldm rfl tb32 (ev1 rfl) rfl rfl) ?_
  refine zab rfl rfl rfl (op_len rfl sl32 (ev1 rfl)) ?_
  refine zab rfl rfl rfl (zac (.inl rfl) (ev1 rfl)) ?_
  refine zaf ?_
  refine dwp_block ?_
  refine dwp_loopS ⟨hs0, rfl⟩ (α := Nat) (fun i => [(10, .val (.int .i64 (i : Int)))]) [(0, _), (8, _), (9, _)] (fun i => [(6, .flat 3 [.int .i64 ((((ptsS (l.take i)).filter fun p => hasL b p).length : Nat) : Int)])]) [_, _, _, _, _, _, .hole, _] (fun i => i ≤ l.length) (fun i => l.length - i) 0 [0, 1, 2, 3, 4, 5, 6, 7] (Nat.zero_le _) rfl ⟨rfl, rfl, rfl, trivial⟩ ⟨rfl, trivial⟩ ⟨rfl, rfl, rfl, rfl, rfl, rfl, rfl, rfl, trivial⟩ ?_
  intro i hx
  simp only [upd, zaa, za, List.cons_append, List.nil_append]
  have hi0 := hx
  refine zae ?_
  refine zad ?_
  refine zab rfl rfl rfl (op_lss rfl (ev1 rfl) (ev1 rfl)) ?_
  refine zaf ?_
  refine zae ?_
  refine dwp_cond rfl (fun c2 => ?_) (fun c2 => ?_)
  · try simp only [decide_eq_true_eq, decide_eq_false_iff_not, beq_iff_eq, bne_iff_ne, beq_eq_false_iff_ne, bne_eq_false_iff_eq, Bool.not_eq_true', Bool.not_eq_false', Bool.and_eq_true, Bool.or_eq_true, Bool.or_eq_false_iff, ne_eq, Decidable.not_not, Int.not_lt, Int.not_le] at c2
    refine dwp_skip ?_
    refine zae ?_
    refine dwp_block ?_
    refine zae ?_
    have hi : i < l.length := by omega
    refine dwp_holes 1 (by simp only [holes, List.cons_append, List.nil_append]; exact rfl) ?_
    refine zad ?_
    refine zab rfl rfl rfl (op_ixsr (j := i) rfl sl32 (ev1 rfl) (ev1 rfl) (fun _ => rfl) (by decide) (by omega) (by omega)) ?_
    refine zab rfl rfl rfl (op_ldwd rfl tb40 (ev1 rfl) rfl) ?_
    refine walk_w rfl rfl rfl (op_alloc 8 rfl zr40 rfl) (by simp only [upd, zaa, za]; exact rfl) ?_
    refine walk_s rfl rfl (op_stwa rfl tb40 (ev1 rfl) (ev1 rfl) rfl rfl rfl rfl) (by simp only [upd, zaa, za]; exact rfl) ?_
    refine zaf ?_
    refine zae ?_
    refine zad ?_
    refine zab rfl rfl rfl (zac (.inl rfl) (ev1 rfl)) ?_
    refine zab rfl rfl rfl (op_ldw rfl tb40 (ev1 rfl) rfl rfl) ?_
    refine walk_w rfl rfl rfl (op_y (i := 0) [0, 1, 2, 3, 4, 5, 6] [] [] rfl (ev1 rfl) (ec (ev1 rfl) en) rfl rfl rfl (un_span l b u hl hu l[i] (hc.1 _ (List.getElem_mem hi)) _ (by have := cnt_le hc (i + 1); rw [cnt_add hi] at this; rw [ptsS_len]; omega) (fun k hk => pts_mem2 hi hk)) rfl rfl rfl rfl rfl) (by simp only [upd, zaa, za]; exact rfl) ?_
    refine zab rfl rfl rfl (op_not rfl (ev1 rfl)) ?_
    refine zaf ?_
    refine dwp_if_f rfl (rfl) ?_
    refine dwp_skip ?_
    refine zad ?_
    refine zab rfl rfl rfl (op_add' rfl (ev1 rfl) (ev1 rfl) (fun _ => IntWalk.i64_in _ (by omega))) ?_
    refine zab rfl rfl rfl (zac (.inl rfl) (ev1 rfl)) ?_
    refine zaf ?_
    refine ⟨i + 1, [0, 1, 2, 3, 4, 5, 6, 7], by omega, by simp only []; omega, rfl, ⟨rfl, rfl, rfl, rfl, trivial⟩, ⟨rfl, rfl, rfl, rfl, rfl, rfl, by rw [ptsS_add hi]; rfl, rfl, trivial⟩⟩
  · try simp only [decide_eq_true_eq, decide_eq_false_iff_not, beq_iff_eq, bne_iff_ne, beq_eq_false_iff_ne, bne_eq_false_iff_eq, Bool.not_eq_true', Bool.not_eq_false', Bool.and_eq_true, Bool.or_eq_true, Bool.or_eq_false_iff, ne_eq, Decidable.not_not, Int.not_lt, Int.not_le] at c2
    refine dwp_exit ?_
    refine kend [0, 1, 2, 3, 4, 5, 6, 7] (res_none rfl) rfl rfl ?_ ⟨?_, ?_, ?_, ?_, ?_, ?_, ?_, ?_, trivial⟩
    rfl
    all_goals first | exact rfl | exact (by rw [take_all (by omega)]; rfl)
set_option maxRecDepth 4000 in
set_option maxHeartbeats 1000000 in
theorem un_told_no (l b u : List Sp) (hl : l.length ≤ 1000000) (hu : ∀ p ∈ ptsS l, hasL u p = true) (hc : ¬ chkS l) : DFun Try.prog 68 [.yld 0, .loc 7 0] [.lp 23 [(2, .loc 1 0)] #[7] alrA alrB .ready none, .mix 27 [.yld 2], .lp 134 [(6, .loc 3 0), (8, .loc 4 0), (9, .loc 5 0), (17, .loc 6 0)] #[100] unrA unrB .ready none, .flat 4 [.bool false], .mix 32 [.slf 3 (b).length ((b).flatMap s3)], .mix 32 [.slf 3 (u).length ((u).flatMap s3)], .flat 3 [.int .i64 (((([] : List P2).filter fun p => hasL b p).length : Nat) : Int)], .mix 32 [.slf 3 (l).length ((l).flatMap s3)]] (.tup []) [.lp 23 [(2, .loc 1 0)] #[7] alrA alrB .ready none, .mix 27 [.yld 2], .lp 134 [(6, .loc 3 0), (8, .loc 4 0), (9, .loc 5 0), (17, .loc 6 0)] #[100] unrA unrB .ready none, .flat 4 [.bool false], .mix 32 [.slf 3 (b).length ((b).flatMap s3)], .mix 32 [.slf 3 (u).length ((u).flatMap s3)], .flat 3 [.int .i64 (((([] : List P2).filter fun p => hasL b p).length : Nat) : Int)], .mix 32 [.slf 3 (l).length ((l).flatMap s3)]] := by
  refine dcalls_go (N := 19) 8 (by kernel_rfl) Try.func68 rfl rfl rfl (by simp only [fr0, Nat.zero_add, Nat.reduceAdd]; exact rfl) rfl fun s0 hs0 => ?_
  refine zae ?_
  refine zae ?_
  refine zad ?_
  refine zab rfl rfl rfl (op_ldm rfl tb32 (ev1 rfl) rfl rfl) ?_
  refine zab rfl rfl rfl (dop_call [] [] [] rfl (ev1 rfl) (ec (ev1 rfl) en) rfl rfl (check_d l) rfl rfl rfl rfl rfl rfl) ?_
  refine zab rfl rfl rfl (op_neq rfl (ev1 rfl) (ev1 rfl)) ?_
  refine zaf ?_
  refine dwp_if_t rfl (by rw [chkE_no hc]; rfl) ?_
  refine dwp_ret ?_
  refine kend [0, 1, 2, 3, 4, 5, 6, 7] (res_none rfl) rfl rfl ?_ ⟨rfl, rfl, rfl, rfl, rfl, rfl, rfl, rfl, trivial⟩
  rfl
set_option maxRecDepth 4000 in
set_option maxHeartbeats 1000000 in
theorem un_all_ok (l b u : List Sp) (hl : l.length ≤ 1000000) (hu : ∀ p ∈ ptsS l, hasL u p = true) (hl0 : l.length ≤ 9223372036854775807) (hc : chkS l) : DFun Try.prog 54 [.yld 0, .loc 5 0] [.lp 134 [(6, .loc 1 0), (8, .loc 2 0), (9, .loc 3 0), (17, .loc 4 0)] #[100] unrA unrB .ready none, .flat 4 [.bool false], .mix 32 [.slf 3 (b).length ((b).flatMap s3)], .mix 32 [.slf 3 (u).length ((u).flatMap s3)], .flat 3 [.int .i64 (((([] : List P2).filter fun p => hasL b p).length : Nat) : Int)], .mix 32 [.slf 3 (l).length ((l).flatMap s3)]] (.tup []) [.lp 134 [(6, .loc 1 0), (8, .loc 2 0), (9, .loc 3 0), (17, .loc 4 0)] #[100] unrA unrB .ready none, .flat 4 [.bool false], .mix 32 [.slf 3 (b).length ((b).flatMap s3)], .mix 32 [.slf 3 (u).length ((u).flatMap s3)], .flat 3 [.int .i64 ((((ptsS l).filter fun p => hasL b p).length : Nat) : Int)], .mix 32 [.slf 3 (l).length ((l).flatMap s3)]] := by
  refine dcalls_go (N := 23) 6 (by kernel_rfl) Try.func54 rfl rfl rfl (by simp only [fr0, Nat.zero_add, Nat.reduceAdd]; exact rfl) rfl fun s0 hs0 => ?_
  refine zae ?_
  refine dwp_holes 1 (by simp only [holes, List.cons_append, List.nil_append]; exact rfl) ?_
  refine zad ?_
  refine walk_w rfl rfl rfl (op_boxm 6 rfl (ev1 rfl) (fun s v h => by cases h <;> rfl) rfl) (by simp only [upd, zaa, za]; exact rfl) ?_
  refine zaf ?_
  refine zae ?_
  refine dwp_holes 1 (by simp only [holes, List.cons_append, List.nil_append]; exact rfl) ?_
  refine zad ?_
  refine zab rfl rfl rfl (op_ldm rfl tb32 (ev1 rfl) rfl rfl) ?_
  refine walk_w rfl rfl rfl (dop_call [] [] [7] rfl (ev1 rfl) (ec (ev1 rfl) en) rfl rfl (told_d l) rfl rfl rfl rfl rfl rfl) (by simp only [upd, zaa, za]; exact rfl) ?_
  refine zaf ?_
  refine dwp_block ?_
  refine dwp_hole ?_
  simp only [List.cons_append, List.nil_append]
  refine dwp_rf (FL := [(2, _)]) (st := .ready) (pe := none) [8, 6, 0, 1, 2, 3, 4, 7] [] [] 8 rfl rfl (ev1 rfl) rfl (subF_lk ⟨rfl, trivial⟩) rfl rfl rfl (un_told l b u hl hu hl0 hc) rfl rfl rfl rfl rfl rfl rfl (by simp) (fun e => ?_) (fun c e => ?_)
  · simp only [upd, zaa, za]
    refine kend [0, 1, 2, 3, 4, 5] (res_none rfl) rfl rfl ?_ ⟨rfl, rfl, rfl, rfl, rfl, rfl, trivial⟩
    rfl
  · cases e
set_option maxRecDepth 4000 in
set_option maxHeartbeats 1000000 in
theorem un_all_no (l b u : List Sp) (hl : l.length ≤ 1000000) (hu : ∀ p ∈ ptsS l, hasL u p = true) (hc : ¬ chkS l) : DFun Try.prog 54 [.yld 0, .loc 5 0] [.lp 134 [(6, .loc 1 0), (8, .loc 2 0), (9, .loc 3 0), (17, .loc 4 0)] #[100] unrA unrB .ready none, .flat 4 [.bool false], .mix 32 [.slf 3 (b).length ((b).flatMap s3)], .mix 32 [.slf 3 (u).length ((u).flatMap s3)], .flat 3 [.int .i64 (((([] : List P2).filter fun p => hasL b p).length : Nat) : Int)], .mix 32 [.slf 3 (l).length ((l).flatMap s3)]] (.tup []) [.lp 134 [(6, .loc 1 0), (8, .loc 2 0), (9, .loc 3 0), (17, .loc 4 0)] #[100] unrA unrB .ready none, .flat 4 [.bool false], .mix 32 [.slf 3 (b).length ((b).flatMap s3)], .mix 32 [.slf 3 (u).length ((u).flatMap s3)], .flat 3 [.int .i64 (((([] : List P2).filter fun p => hasL b p).length : Nat) : Int)], .mix 32 [.slf 3 (l).length ((l).flatMap s3)]] := by
  refine dcalls_go (N := 23) 6 (by kernel_rfl) Try.func54 rfl rfl rfl (by simp only [fr0, Nat.zero_add, Nat.reduceAdd]; exact rfl) rfl fun s0 hs0 => ?_
  refine zae ?_
  refine dwp_holes 1 (by simp only [holes, List.cons_append, List.nil_append]; exact rfl) ?_
  refine zad ?_
  refine walk_w rfl rfl rfl (op_boxm 6 rfl (ev1 rfl) (fun s v h => by cases h <;> rfl) rfl) (by simp only [upd, zaa, za]; exact rfl) ?_
  refine zaf ?_
  refine zae ?_
  refine dwp_holes 1 (by simp only [holes, List.cons_append, List.nil_append]; exact rfl) ?_
  refine zad ?_
  refine zab rfl rfl rfl (op_ldm rfl tb32 (ev1 rfl) rfl rfl) ?_
  refine walk_w rfl rfl rfl (dop_call [] [] [7] rfl (ev1 rfl) (ec (ev1 rfl) en) rfl rfl (told_d l) rfl rfl rfl rfl rfl rfl) (by simp only [upd, zaa, za]; exact rfl) ?_
  refine zaf ?_
  refine dwp_block ?_
  refine dwp_hole ?_
  simp only [List.cons_append, List.nil_append]
  refine dwp_rf (FL := [(2, _)]) (st := .ready) (pe := none) [8, 6, 0, 1, 2, 3, 4, 7] [] [] 8 rfl rfl (ev1 rfl) rfl (subF_lk ⟨rfl, trivial⟩) rfl rfl rfl (un_told_no l b u hl hu hc) rfl rfl rfl rfl rfl rfl rfl (by simp) (fun e => ?_) (fun c e => ?_)
  · simp only [upd, zaa, za]
    refine kend [0, 1, 2, 3, 4, 5] (res_none rfl) rfl rfl ?_ ⟨rfl, rfl, rfl, rfl, rfl, rfl, trivial⟩
    rfl
  · cases e
theorem un_all (l b u : List Sp) (hl : l.length ≤ 1000000) (hu : ∀ p ∈ ptsS l, hasL u p = true) (hl0 : l.length ≤ 9223372036854775807) : DFun Try.prog 54 [.yld 0, .loc 5 0] [.lp 134 [(6, .loc 1 0), (8, .loc 2 0), (9, .loc 3 0), (17, .loc 4 0)] #[100] unrA unrB .ready none, .flat 4 [.bool false], .mix 32 [.slf 3 (b).length ((b).flatMap s3)], .mix 32 [.slf 3 (u).length ((u).flatMap s3)], .flat 3 [.int .i64 (((([] : List P2).filter fun p => hasL b p).length : Nat) : Int)], .mix 32 [.slf 3 (l).length ((l).flatMap s3)]] (.tup []) [.lp 134 [(6, .loc 1 0), (8, .loc 2 0), (9, .loc 3 0), (17, .loc 4 0)] #[100] unrA unrB .ready none, .flat 4 [.bool false], .mix 32 [.slf 3 (b).length ((b).flatMap s3)], .mix 32 [.slf 3 (u).length ((u).flatMap s3)], .flat 3 [.int .i64 ((((ptsL l).filter fun p => hasL b p).length : Nat) : Int)], .mix 32 [.slf 3 (l).length ((l).flatMap s3)]] := by
  by_cases hc : chkS l
  · rw [ptsL_ok hc]; exact un_all_ok l b u hl hu hl0 hc
  · rw [ptsL_no hc]; exact un_all_no l b u hl hu hc
end Go.Proofs.Ytoffbkjhoelghaa
namespace Go.Proofs.Ytoffbkjhoelghaa
set_option maxRecDepth 4000
set_option linter.unusedVariables false
set_option linter.unusedSimpArgs false
open Go.RowKit
theorem un4 : Try.prog.underlying 4 = some .bool := by kernel_rfl
def fewL (l : List Sp) : List Sp := l.take (min l.length 40)
theorem fewL_len (l : List Sp) : (fewL l).length ≤ 40 := by unfold fewL; rw [List.length_take]; omega
theorem norm_chk {l : List Sp} (h : ∀ s ∈ l, rchS s ∧ s.f ≤ s.t) : chkS (normS l) := by
  have hn := norm_ok fun s hs => (h s hs).2
  refine ⟨fun s hs => ?_, hn.1.2⟩
  have hv := hn.1.1 s hs
  have hb := has_bd (A := -256) (B := 255) (C := -256) (D' := 255) hn.1.1 hn.2 (fun s hs => by
    have := (h s hs).1
    unfold rchS at this
    omega) s hs
  refine ⟨?_, hv⟩
  unfold rchS
  omega
theorem uni_chk {rr : List (List Sp)} (h : allC rr = true) : chkS (uniL rr) := by
  rw [(uni_ok h).1]
  exact norm_chk (allC_flat h)
theorem uni_has {rr : List (List Sp)} (h : allC rr = true) (x y : Int) : hasS (uniL rr) x y ↔ ∃ l ∈ rr, hasS l x y := by
  rw [(uni_ok h).1, (norm_ok fun s hs => (allC_flat h s hs).2).2]
  constructor
  · rintro ⟨s, hs, g⟩
    obtain ⟨l, hl, h1⟩ := List.mem_flatten.1 hs
    exact ⟨l, hl, s, h1, g⟩
  · rintro ⟨l, hl, s, hs, g⟩
    exact ⟨s, List.mem_flatten.2 ⟨l, hl, hs⟩, g⟩
theorem uni_uniq {rr : List (List Sp)} (h : allC rr = true) {m : List Sp} (hm : okS m) (he : ∀ x y, hasS m x y ↔ ∃ l ∈ rr, hasS l x y) : uniL rr = m :=
  okS_uniq (uni_chk h).ok hm fun x y => (uni_has h x y).trans (he x y).symm
structure UniLaws (a b u : List Sp) : Prop where
  chk : chkS u
  v : uniL [b, a, b, u] = u
  ve : uniE [b, a, b, u] = 0
  o : uniL [u] = u
  oe : uniE [u] = 0
  has : ∀ x y, hasS u x y ↔ hasS a x y ∨ hasS b x y
  ca : chkS a
  cb : chkS b
theorem uni_laws {a b : List Sp} (hc : allC [a, b] = true) : UniLaws a b (uniL [a, b]) := by
  have hu := uni_chk hc
  have ca := allC_mem hc (l := a) (by simp)
  have cb := allC_mem hc (l := b) (by simp)
  have hh : ∀ x y, hasS (uniL [a, b]) x y ↔ hasS a x y ∨ hasS b x y := fun x y => by rw [uni_has hc]; simp
  have h4 : allC [b, a, b, uniL [a, b]] = true := by unfold allC; simp [ca, cb, hu]
  have h1 : allC [uniL [a, b]] = true := by unfold allC; simp [hu]
  refine ⟨hu, uni_uniq h4 hu.ok fun x y => ?_, (uni_ok h4).2, uni_uniq h1 hu.ok fun x y => by simp, (uni_ok h1).2, hh, ca, cb⟩
  simp only [List.mem_cons, List.not_mem_nil, or_false, exists_eq_or_imp, exists_eq_left]
  rw [hh]
  constructor
  · rintro (h | h)
    · exact .inr (.inl h)
    · exact .inl h
  · rintro (h | h | h | h)
    · exact .inr h
    · exact .inl h
    · exact .inr h
    · exact h
theorem hasL_iff {l : List Sp} (h : chkS l) (p : P2) : hasL l p = true ↔ hasS l p.x p.y := by unfold hasL hasB; rw [decide_eq_true h, Bool.true_and, decide_eq_true_eq]
theorem UniLaws.pts {a b u : List Sp} (h : UniLaws a b u) : ∀ p ∈ ptsS a, hasL u p = true := fun p hp => (hasL_iff h.chk p).2 ((h.has p.x p.y).2 (.inl (ptsS_mem.1 hp)))
theorem UniLaws.hasE {a b u : List Sp} (h : UniLaws a b u) (p : P2) : hasL u p = (hasL a p || hasL b p) := by
  rw [Bool.eq_iff_iff, Bool.or_eq_true, hasL_iff h.chk, hasL_iff h.ca, hasL_iff h.cb, h.has]
theorem UniLaws.cnt {a b u : List Sp} (h : UniLaws a b u) : (cntL u : Int) = (cntL a : Int) + (cntL b : Int) - (((ptsL a).filter fun p => hasL b p).length : Nat) := by
  have h1 := cnt_union h.chk.ok h.ca.ok h.cb.ok h.has
  have e : ((ptsL a).filter fun p => hasL b p) = (ptsS a).filter fun p => decide (hasS b p.x p.y) := by
    rw [ptsL_ok h.ca]
    refine List.filter_congr fun p _ => ?_
    rw [Bool.eq_iff_iff, hasL_iff h.cb, decide_eq_true_eq]
  rw [e]
  unfold cntL
  rw [if_pos h.chk, if_pos h.ca, if_pos h.cb]
  omega
theorem cntL_le (l : List Sp) : cntL l ≤ l.length * 512 := by
  unfold cntL
  split
  · rename_i h
    have := cnt_le h l.length
    rwa [List.take_length] at this
  · omega
theorem ptsL_le (l : List Sp) : (ptsL l).length ≤ l.length * 512 := by
  unfold ptsL
  split
  · rename_i h
    have := cnt_le h l.length
    rw [List.take_length] at this
    rwa [ptsS_len]
  · simp
theorem uni_nil : uniL [] = [] := by
  rw [(uni_ok (rr := []) rfl).1]
  exact norm_id okS_nil
set_option maxRecDepth 4000 in
set_option maxHeartbeats 1000000 in
theorem few_d (l : List Sp) : DFun Try.prog 25 [.slf 3 (l).length ((l).flatMap s3)] [] (.slf 3 ((fewL l)).length (((fewL l)).flatMap s3)) [] := by
  refine dcalls_go (N := 9) 0 (by kernel_rfl) Try.func25 rfl rfl rfl (by simp only [fr0, Nat.zero_add, Nat.reduceAdd]; exact rfl) rfl fun s0 hs0 => ?_
  refine dwp_len (t := 0) rfl fun hl0 hL0 => ?_
  refine zae ?_
  refine zad ?_
  refine zab rfl rfl rfl (zac (.inr rfl) (ev1 rfl)) ?_
  refine zaf ?_
  refine zae ?_
  refine zad ?_
  refine zab rfl rfl rfl (zac (.inl rfl) (ev1 rfl)) ?_
  refine zab rfl rfl rfl (zac (.inl rfl) (ev1 rfl)) ?_
  refine zab rfl rfl rfl (op_len rfl sl32 (ev1 rfl)) ?_
  refine zab rfl rfl rfl (op_min rfl (ev1 rfl) (ev1 rfl)) ?_
  refine zab rfl rfl rfl (op_sltk (j := min l.length 40) rfl sl32 (ev1 rfl) (bd_some (ev1 rfl)) (fun _ => by omega) (fun _ => by omega) (fun _ => rfl)) ?_
  refine zab rfl rfl rfl (dop_call [] [] [] rfl (ev1 rfl) (ec (ev1 rfl) en) rfl rfl (cloneS_f _ (by have := fewL_len l; unfold fewL at this; omega)) rfl rfl rfl rfl rfl rfl) ?_
  refine zab rfl rfl rfl (zac (.inr rfl) (ev1 rfl)) ?_
  refine zaf ?_
  refine dwp_ret ?_
  refine kend0 (rs1 rfl (rv_t rfl)) rfl ?_
  rfl
set_option maxRecDepth 4000 in
set_option maxHeartbeats 1000000 in
theorem unions_d (x y : List Sp) (p : P2) : DFun Try.prog 7 [.slf 3 (x).length ((x).flatMap s3), .slf 3 (y).length ((y).flatMap s3), .val (.agg #[.int .i64 p.x, .int .i64 p.y])] [] (.val (.bool true)) [] := by
  have hlx := fewL_len x
  have hly := fewL_len y
  refine dcalls_go (N := 134) 0 (by kernel_rfl) Try.func7 rfl rfl rfl (by simp only [fr0, Nat.zero_add, Nat.reduceAdd]; exact rfl) rfl fun s0 hs0 => ?_
  refine dwp_len (t := 0) rfl fun hl0 hL0 => ?_
  refine dwp_len (t := 1) rfl fun hl1 hL1 => ?_
  refine zae ?_
  refine dwp_holes 2 (by simp only [holes, List.cons_append, List.nil_append]; exact rfl) ?_
  refine zad ?_
  refine walk_w rfl rfl rfl (op_boxa 0 rfl (ev1 rfl) rfl) (by simp only [upd, zaa, za]; exact rfl) ?_
  refine walk_w rfl rfl rfl (op_alloc 1 rfl zr4 rfl) (by simp only [upd, zaa, za]; exact rfl) ?_
  refine zaf ?_
  refine zae ?_
  refine zae ?_
  refine zad ?_
  refine zab rfl rfl rfl (dop_call [] [] [] rfl (ev1 rfl) en rfl rfl (wakes_d) rfl rfl rfl rfl rfl rfl) ?_
  refine zab rfl rfl rfl (op_not rfl (ev1 rfl)) ?_
  refine zaf ?_
  refine dwp_if_f rfl (rfl) ?_
  refine dwp_skip ?_
  refine zae ?_
  refine dwp_holes 1 (by simp only [holes, List.cons_append, List.nil_append]; exact rfl) ?_
  refine zad ?_
  refine zab rfl rfl rfl (zac (.inl rfl) (ev1 rfl)) ?_
  refine zab rfl rfl rfl (dop_call [] [] [] rfl (ev1 rfl) (ec (ev1 rfl) en) rfl rfl (few_d x) rfl rfl rfl rfl rfl rfl) ?_
  refine zab rfl rfl rfl (zac (.inl rfl) (ev1 rfl)) ?_
  refine zab rfl rfl rfl (dop_call [] [] [] rfl (ev1 rfl) (ec (ev1 rfl) en) rfl rfl (few_d y) rfl rfl rfl rfl rfl rfl) ?_
  refine walk_w rfl rfl rfl (op_alloc 2 rfl zr32 rfl) (by simp only [upd, zaa, za]; exact rfl) ?_
  refine zab rfl rfl rfl (zac (.inr rfl) (ev1 rfl)) ?_
  refine walk_s rfl rfl (op_stfm rfl tb32 (ev1 rfl) (ev1 rfl) (fun s v h => by cases h <;> exact ⟨rfl, rfl⟩) rfl (by decide)) (by simp only [upd, zaa, za]; exact rfl) ?_
  refine zaf ?_
  refine zae ?_
  refine dwp_holes 1 (by simp only [holes, List.cons_append, List.nil_append]; exact rfl) ?_
  refine zad ?_
  refine zab rfl rfl rfl (zac (.inl rfl) (ev1 rfl)) ?_
  refine zab rfl rfl rfl (op_ldm rfl tb32 (ev1 rfl) rfl rfl) ?_
  refine zab rfl rfl rfl (op_bsm (ps := [(0, .tmp 26), (1, .tmp 27)]) rfl sl51 zr32 rfl (ec (ev1 rfl) (ec (ev1 rfl) en)) rfl (by decide)) ?_
  refine zab rfl rfl rfl (dop_call [] [] [] rfl (ev1 rfl) (ec (ev1 rfl) en) rfl rfl (union_d [fewL x, fewL y] (by simp; omega)) rfl rfl rfl rfl rfl rfl) ?_
  refine zab rfl rfl rfl (zac (.inl rfl) (ev1 rfl)) ?_
  refine zab rfl rfl rfl (op_ext rfl (ev1 rfl) rfl) ?_
  refine zab rfl rfl rfl (op_ext rfl (ev1 rfl) rfl) ?_
  refine walk_w rfl rfl rfl (op_alloc 3 rfl zr32 rfl) (by simp only [upd, zaa, za]; exact rfl) ?_
  refine walk_s rfl rfl (op_stfm rfl tb32 (ev1 rfl) (ev1 rfl) (fun s v h => by cases h <;> exact ⟨rfl, rfl⟩) rfl (by decide)) (by simp only [upd, zaa, za]; exact rfl) ?_
  refine zab rfl rfl rfl (zac (.inr rfl) (ev1 rfl)) ?_
  refine zaf ?_
  refine zae ?_
  refine zae ?_
  by_cases hc : allC [fewL x, fewL y] = true
  · have hL := uni_laws hc
    have huo := uni_ok hc
    have hul : (uniL [fewL x, fewL y]).length ≤ 80 := by rw [huo.1]; refine Nat.le_trans (norm_len _) ?_; simp; omega
    have c1 := cntL_le (fewL x)
    have c2 := cntL_le (fewL y)
    have c3 := cntL_le (uniL [fewL x, fewL y])
    have hfp := ptsL_le (fewL x)
    have hff : ((ptsL (fewL x)).filter fun p => hasL (fewL y) p).length ≤ (ptsL (fewL x)).length := List.length_filter_le ..
    refine zad ?_
    refine zab rfl rfl rfl (zac (.inl rfl) (ev1 rfl)) ?_
    refine zab rfl rfl rfl (op_neq rfl (ev1 rfl) (ev1 rfl)) ?_
    refine zaf ?_
    refine dwp_if_f rfl (by rw [huo.2]; rfl) ?_
    refine dwp_skip ?_
    refine zae ?_
    refine zad ?_
    refine zab rfl rfl rfl (op_ldm rfl tb32 (ev1 rfl) rfl rfl) ?_
    refine zab rfl rfl rfl (zac (.inl rfl) (ev1 rfl)) ?_
    refine zab rfl rfl rfl (op_ldm rfl tb32 (ev1 rfl) rfl rfl) ?_
    refine zab rfl rfl rfl (op_ldm rfl tb32 (ev1 rfl) rfl rfl) ?_
    refine zab rfl rfl rfl (op_bsm (ps := [(0, .tmp 48), (1, .tmp 49), (2, .tmp 50), (3, .tmp 51)]) rfl sl51 zr32 rfl (ec (ev1 rfl) (ec (ev1 rfl) (ec (ev1 rfl) (ec (ev1 rfl) en)))) rfl (by decide)) ?_
    refine zab rfl rfl rfl (dop_call [] [] [] rfl (ev1 rfl) (ec (ev1 rfl) en) rfl rfl (union_d [fewL y, fewL x, fewL y, (uniL [fewL x, fewL y])] (by simp; omega)) rfl rfl rfl rfl rfl rfl) ?_
    refine zab rfl rfl rfl (zac (.inl rfl) (ev1 rfl)) ?_
    refine zab rfl rfl rfl (op_ext rfl (ev1 rfl) rfl) ?_
    refine zab rfl rfl rfl (op_ext rfl (ev1 rfl) rfl) ?_
    refine zab rfl rfl rfl (zac (.inr rfl) (ev1 rfl)) ?_
    refine zab rfl rfl rfl (zac (.inr rfl) (ev1 rfl)) ?_
    refine zaf ?_
    refine zae ?_
    refine zad ?_
    refine zab rfl rfl rfl (op_ldm rfl tb32 (ev1 rfl) rfl rfl) ?_
    refine zab rfl rfl rfl (op_bsm (ps := [(0, .tmp 57)]) rfl sl51 zr32 rfl (ec (ev1 rfl) en) rfl (by decide)) ?_
    refine zab rfl rfl rfl (dop_call [] [] [] rfl (ev1 rfl) (ec (ev1 rfl) en) rfl rfl (union_d [(uniL [fewL x, fewL y])] (by simp; omega)) rfl rfl rfl rfl rfl rfl) ?_
    refine zab rfl rfl rfl (zac (.inl rfl) (ev1 rfl)) ?_
    refine zab rfl rfl rfl (op_ext rfl (ev1 rfl) rfl) ?_
    refine zab rfl rfl rfl (op_ext rfl (ev1 rfl) rfl) ?_
    refine zab rfl rfl rfl (zac (.inr rfl) (ev1 rfl)) ?_
    refine zab rfl rfl rfl (zac (.inr rfl) (ev1 rfl)) ?_
    refine zaf ?_
    refine zae ?_
    refine zad ?_
    refine zab rfl rfl rfl (dop_call [] [] [] rfl (ev1 rfl) (ec (evnilm (ev1 rfl)) en) rfl rfl (union_d [] (Nat.zero_le _)) rfl rfl rfl rfl rfl rfl) ?_
    refine zab rfl rfl rfl (zac (.inl rfl) (ev1 rfl)) ?_
    refine zab rfl rfl rfl (op_ext rfl (ev1 rfl) rfl) ?_
    refine zab rfl rfl rfl (op_ext rfl (ev1 rfl) rfl) ?_
    refine zab rfl rfl rfl (zac (.inr rfl) (ev1 rfl)) ?_
    refine zab rfl rfl rfl (zac (.inr rfl) (ev1 rfl)) ?_
    refine zaf ?_
    refine zae ?_
    refine zae ?_
    refine zad ?_
    refine zab rfl rfl rfl (zac (.inl rfl) (ev1 rfl)) ?_
    refine zab rfl rfl rfl ((op_neq rfl (ev1 rfl) (ev1 rfl)).cast (d' := .val (.bool false)) (by rw [hL.ve]; rfl)) ?_
    refine zab rfl rfl rfl (zac (.inl rfl) (ev1 rfl)) ?_
    refine walk_k (gd_f (b := false) rfl rfl rfl) rfl rfl rfl (zac (.inl rfl) (ev1 rfl)) (by simp only [upd, zaa, za]; exact rfl) ?_
    refine walk_k (gd_f (b := false) rfl rfl rfl) rfl rfl rfl ((op_neq rfl (ev2 rfl) (ev1 rfl)).cast (d' := .val (.bool false)) (by rw [hL.oe]; rfl)) (by simp only [upd, zaa, za]; exact rfl) ?_
    refine zab rfl rfl rfl ((op_or rfl (ev1 rfl) (ev3 rfl (fun _ => rfl))).cast (d' := .val (.bool false)) (by rfl)) ?_
    refine zab rfl rfl rfl (zac (.inl rfl) (ev1 rfl)) ?_
    refine walk_k (gd_f (b := false) rfl rfl rfl) rfl rfl rfl (zac (.inl rfl) (ev1 rfl)) (by simp only [upd, zaa, za]; exact rfl) ?_
    refine walk_k (gd_f (b := false) rfl rfl rfl) rfl rfl rfl ((op_neq rfl (ev2 rfl) (ev1 rfl)).cast (d' := .val (.bool false)) (by rfl)) (by simp only [upd, zaa, za]; exact rfl) ?_
    refine zab rfl rfl rfl ((op_or rfl (ev1 rfl) (ev3 rfl (fun _ => rfl))).cast (d' := .val (.bool false)) (by rfl)) ?_
    refine zab rfl rfl rfl (zac (.inl rfl) (ev1 rfl)) ?_
    refine walk_k (gd_f (b := false) rfl rfl rfl) rfl rfl rfl (op_ldm rfl tb32 (ev1 rfl) rfl rfl) (by simp only [upd, zaa, za]; exact rfl) ?_
    refine walk_k (gd_f (b := false) rfl rfl rfl) rfl rfl rfl (zac (.inl rfl) (ev1 rfl)) (by simp only [upd, zaa, za]; exact rfl) ?_
    refine walk_k (gd_f (b := false) rfl rfl rfl) rfl rfl rfl ((dop_call [] [] [] rfl (ev1 rfl) (ec (ev2 rfl) (ec (ev2 rfl) en)) rfl rfl (equalS (uniL [fewL x, fewL y]) (uniL [fewL y, fewL x, fewL y, (uniL [fewL x, fewL y])])) rfl rfl rfl rfl rfl rfl).cast (d' := .val (.bool true)) (by rw [hL.v]; simp)) (by simp only [upd, zaa, za]; exact rfl) ?_
    refine walk_k (gd_f (b := false) rfl rfl rfl) rfl rfl rfl ((op_not rfl (ev2 rfl)).cast (d' := .val (.bool false)) (by kernel_rfl)) (by simp only [upd, zaa, za]; exact rfl) ?_
    refine zab rfl rfl rfl ((op_or rfl (ev1 rfl) (ev3 rfl (fun _ => rfl))).cast (d' := .val (.bool false)) (by rfl)) ?_
    refine zab rfl rfl rfl (zac (.inl rfl) (ev1 rfl)) ?_
    refine walk_k (gd_f (b := false) rfl rfl rfl) rfl rfl rfl (op_ldm rfl tb32 (ev1 rfl) rfl rfl) (by simp only [upd, zaa, za]; exact rfl) ?_
    refine walk_k (gd_f (b := false) rfl rfl rfl) rfl rfl rfl (zac (.inl rfl) (ev1 rfl)) (by simp only [upd, zaa, za]; exact rfl) ?_
    refine walk_k (gd_f (b := false) rfl rfl rfl) rfl rfl rfl ((dop_call [] [] [] rfl (ev1 rfl) (ec (ev2 rfl) (ec (ev2 rfl) en)) rfl rfl (equalS (uniL [fewL x, fewL y]) (uniL [(uniL [fewL x, fewL y])])) rfl rfl rfl rfl rfl rfl).cast (d' := .val (.bool true)) (by rw [hL.o]; simp)) (by simp only [upd, zaa, za]; exact rfl) ?_
    refine walk_k (gd_f (b := false) rfl rfl rfl) rfl rfl rfl ((op_not rfl (ev2 rfl)).cast (d' := .val (.bool false)) (by kernel_rfl)) (by simp only [upd, zaa, za]; exact rfl) ?_
    refine zab rfl rfl rfl ((op_or rfl (ev1 rfl) (ev3 rfl (fun _ => rfl))).cast (d' := .val (.bool false)) (by rfl)) ?_
    refine zab rfl rfl rfl (zac (.inl rfl) (ev1 rfl)) ?_
    refine walk_k (gd_f (b := false) rfl rfl rfl) rfl rfl rfl (zac (.inl rfl) (ev1 rfl)) (by simp only [upd, zaa, za]; exact rfl) ?_
    refine walk_k (gd_f (b := false) rfl rfl rfl) rfl rfl rfl (op_len rfl sl32 (ev2 rfl)) (by simp only [upd, zaa, za]; exact rfl) ?_
    refine walk_k (gd_f (b := false) rfl rfl rfl) rfl rfl rfl ((op_gtr rfl (ev2 rfl) (ev1 rfl)).cast (d' := .val (.bool false)) (by rw [uni_nil]; rfl)) (by simp only [upd, zaa, za]; exact rfl) ?_
    refine zab rfl rfl rfl ((op_or rfl (ev1 rfl) (ev3 rfl (fun _ => rfl))).cast (d' := .val (.bool false)) (by rfl)) ?_
    refine zab rfl rfl rfl (zac (.inl rfl) (ev1 rfl)) ?_
    refine walk_k (gd_f (b := false) rfl rfl rfl) rfl rfl rfl (op_ldm rfl tb32 (ev1 rfl) rfl rfl) (by simp only [upd, zaa, za]; exact rfl) ?_
    refine walk_k (gd_f (b := false) rfl rfl rfl) rfl rfl rfl (dop_call [] [] [] rfl (ev1 rfl) (ec (ev2 rfl) en) rfl rfl (check_d _) rfl rfl rfl rfl rfl rfl) (by simp only [upd, zaa, za]; exact rfl) ?_
    refine walk_k (gd_f (b := false) rfl rfl rfl) rfl rfl rfl ((op_neq rfl (ev2 rfl) (ev1 rfl)).cast (d' := .val (.bool false)) (by rw [chkE_ok hL.chk]; rfl)) (by simp only [upd, zaa, za]; exact rfl) ?_
    refine zab rfl rfl rfl ((op_or rfl (ev1 rfl) (ev3 rfl (fun _ => rfl))).cast (d' := .val (.bool false)) (by rfl)) ?_
    refine zaf ?_
    refine dwp_if_f rfl (rfl) ?_
    refine dwp_skip ?_
    refine zae ?_
    refine dwp_holes 1 (by simp only [holes, List.cons_append, List.nil_append]; exact rfl) ?_
    refine zad ?_
    refine walk_w rfl rfl rfl (op_alloc 4 rfl zr3 rfl) (by simp only [upd, zaa, za]; exact rfl) ?_
    refine walk_s rfl rfl (op_stwi rfl tb3 (ev1 rfl) (ev1 rfl) rfl) (by simp only [upd, zaa, za]; exact rfl) ?_
    refine zaf ?_
    refine zae ?_
    refine zae ?_
    refine dwp_holes 1 (by simp only [holes, List.cons_append, List.nil_append]; exact rfl) ?_
    refine zad ?_
    refine zab rfl rfl rfl (zac (.inl rfl) (ev1 rfl)) ?_
    refine walk_w rfl rfl rfl (dop_call [] [] [5] rfl (ev1 rfl) (ec (ev1 rfl) en) rfl rfl (all_d (fewL x) (by omega)) rfl rfl rfl rfl rfl rfl) (by simp only [upd, zaa, za]; exact rfl) ?_
    refine zaf ?_
    refine dwp_block ?_
    refine dwp_hole ?_
    simp only [List.cons_append, List.nil_append]
    refine dwp_rf (FL := [(6, _), (8, _), (9, _), (17, _)]) (st := .ready) (pe := none) [6, 1, 2, 3, 4, 5] [] [] 6 rfl rfl (ev1 rfl) rfl (subF_lk ⟨rfl, rfl, rfl, rfl, trivial⟩) rfl rfl rfl (un_all (fewL x) (fewL y) (uniL [fewL x, fewL y]) (by omega) hL.pts (by omega)) rfl rfl rfl rfl rfl rfl rfl (by simp) (fun e => ?_) (fun c e => ?_)
    · simp only [upd, zaa, za]
      refine zae ?_
      refine dwp_draw [([3], []), ([], []), ([], []), ([], []), ([2], []), ([], []), ([], []), ([4], []), ([], []), ([], []), ([], []), ([3], []), ([0], []), ([], []), ([], []), ([0], []), ([], []), ([], []), ([2], []), ([0], []), ([], []), ([], []), ([], []), ([], []), ([1], [1])] mixed (by kernel_rfl) ?_
      refine lex_r rfl rfl (op_ldm rfl tb32 (ev1 rfl) rfl rfl) ?_
      refine lex_r rfl rfl (dop_call [] [] [] rfl (ev1 rfl) (ec (ev1 rfl) en) rfl rfl (count_d (uniL [fewL x, fewL y]) (by omega)) rfl rfl rfl rfl rfl rfl) ?_
      refine lex_r rfl rfl (zac (.inl rfl) (ev1 rfl)) ?_
      refine lex_r rfl rfl (dop_call [] [] [] rfl (ev1 rfl) (ec (ev1 rfl) en) rfl rfl (count_d (fewL x) (by omega)) rfl rfl rfl rfl rfl rfl) ?_
      refine lex_r rfl rfl (op_ldm rfl tb32 (ev1 rfl) rfl rfl) ?_
      refine lex_r rfl rfl (dop_call [] [] [] rfl (ev1 rfl) (ec (ev1 rfl) en) rfl rfl (count_d (fewL y) (by omega)) rfl rfl rfl rfl rfl rfl) ?_
      refine lex_r rfl rfl (op_add' rfl (ev1 rfl) (ev1 rfl) (fun _ => IntWalk.i64_in _ (by omega))) ?_
      refine lex_r rfl rfl (op_ldo rfl tb3 (ev1 rfl) rfl rfl) ?_
      refine lex_r rfl rfl (op_sub' rfl (ev1 rfl) (ev1 rfl) (fun _ => IntWalk.i64_in _ (by omega))) ?_
      refine lex_r rfl rfl ((op_eql rfl (ev1 rfl) (ev1 rfl)).cast (d' := .val (.bool true)) (by rw [hL.cnt]; simp)) ?_
      refine lex_r rfl rfl (zac (.inl rfl) (ev1 rfl)) ?_
      refine lex_k (gd_t (b := true) rfl rfl rfl) rfl rfl (op_ldm rfl tb32 (ev1 rfl) rfl rfl) rfl (by simp only [upd, zaa, za]; exact rfl) ?_
      refine lex_k (gd_t (b := true) rfl rfl rfl) rfl rfl (op_ldw rfl tb25 (ev1 rfl) rfl rfl) rfl (by simp only [upd, zaa, za]; exact rfl) ?_
      refine lex_k (gd_t (b := true) rfl rfl rfl) rfl rfl (dop_call [] [] [] rfl (ev1 rfl) (ec (ev2 rfl) (ec (ev2 rfl) en)) rfl rfl (has_d (uniL [fewL x, fewL y]) p) rfl rfl rfl rfl rfl rfl) rfl (by simp only [upd, zaa, za]; exact rfl) ?_
      refine lex_k (gd_t (b := true) rfl rfl rfl) rfl rfl (zac (.inl rfl) (ev1 rfl)) rfl (by simp only [upd, zaa, za]; exact rfl) ?_
      refine lex_k (gd_t (b := true) rfl rfl rfl) rfl rfl (op_ldw rfl tb25 (ev1 rfl) rfl rfl) rfl (by simp only [upd, zaa, za]; exact rfl) ?_
      refine lex_k (gd_t (b := true) rfl rfl rfl) rfl rfl (dop_call [] [] [] rfl (ev1 rfl) (ec (ev2 rfl) (ec (ev2 rfl) en)) rfl rfl (has_d (fewL x) p) rfl rfl rfl rfl rfl rfl) rfl (by simp only [upd, zaa, za]; exact rfl) ?_
      refine lex_k (gd_t (b := true) rfl rfl rfl) rfl rfl (zac (.inl rfl) (ev2 rfl)) rfl (by simp only [upd, zaa, za]; exact rfl) ?_
      refine lex_gr (gd_ff rfl rfl rfl) rfl rfl (op_ldm rfl tb32 (ev1 rfl) rfl rfl) ?_
      refine lex_gr (gd_ff rfl rfl rfl) rfl rfl (op_ldw rfl tb25 (ev1 rfl) rfl rfl) ?_
      refine lex_gr (gd_ff rfl rfl rfl) rfl rfl (dop_call [] [] [] rfl (ev1 rfl) (ec (ev2 rfl) (ec (ev2 rfl) en)) rfl rfl (has_d (fewL y) p) rfl rfl rfl rfl rfl rfl) ?_
      refine lex_k (gd_t (b := true) rfl rfl rfl) rfl rfl (op_or rfl (ev2 rfl) (ev3 rfl id)) rfl (by simp only [upd, zaa, za]; exact rfl) ?_
      refine lex_k (gd_t (b := true) rfl rfl rfl) rfl rfl ((op_eqb rfl un4 (ev2 rfl) (ev2 rfl)).cast (d' := .val (.bool true)) (by rw [hL.hasE]; simp)) rfl (by simp only [upd, zaa, za]; exact rfl) ?_
      refine lex_r rfl rfl ((op_and rfl (ev1 rfl) (ev3 rfl (fun _ => rfl))).cast (d' := .val (.bool true)) (by rfl)) ?_
      refine lex_s rfl rfl (op_stwb rfl tb4 (ev1 rfl) (ev1 rfl) rfl) rfl (by simp only [upd, zaa, za]; exact rfl) ?_
      refine lex_nil ?_
      refine dwp_ret ?_
      refine kend0 (rs1 rfl (rv_1 tb4 rfl rfl rfl)) rfl ?_
      rfl
    · cases e
  · have hun := uni_no (show allC [fewL x, fewL y] = false by simpa using hc)
    have hE : chkE (fewL x) ≠ 0 ∨ chkE (fewL y) ≠ 0 := by
      by_cases h1 : chkS (fewL x)
      · by_cases h2 : chkS (fewL y)
        · exact absurd (by unfold allC; simp [h1, h2]) hc
        · right; rw [chkE_no h2]; decide
      · left; rw [chkE_no h1]; decide
    refine zad ?_
    refine zab rfl rfl rfl (zac (.inl rfl) (ev1 rfl)) ?_
    refine zab rfl rfl rfl (op_neq rfl (ev1 rfl) (ev1 rfl)) ?_
    refine zaf ?_
    refine dwp_if_t rfl (by rw [hun.2]; rfl) ?_
    refine zae ?_
    refine zad ?_
    refine zab rfl rfl rfl (op_ldm rfl tb32 (ev1 rfl) rfl rfl) ?_
    refine zab rfl rfl rfl (op_len rfl sl32 (ev1 rfl)) ?_
    refine zab rfl rfl rfl (op_eql rfl (ev1 rfl) (ev1 rfl)) ?_
    refine zab rfl rfl rfl (zac (.inl rfl) (ev1 rfl)) ?_
    refine walk_gr (gd_t rfl rfl rfl) rfl rfl rfl (zac (.inl rfl) (ev1 rfl)) ?_
    refine walk_gr (gd_t rfl rfl rfl) rfl rfl rfl (dop_call [] [] [] rfl (ev1 rfl) (ec (ev2 rfl) en) rfl rfl (check_d _) rfl rfl rfl rfl rfl rfl) ?_
    refine walk_gr (gd_t rfl rfl rfl) rfl rfl rfl (op_neq rfl (ev2 rfl) (ev1 rfl)) ?_
    refine walk_gr (gd_t rfl rfl rfl) rfl rfl rfl (zac (.inl rfl) (ev2 rfl)) ?_
    refine walk_gr (gd_ff rfl rfl rfl) rfl rfl rfl (op_ldm rfl tb32 (ev1 rfl) rfl rfl) ?_
    refine walk_gr (gd_ff rfl rfl rfl) rfl rfl rfl (dop_call [] [] [] rfl (ev1 rfl) (ec (ev2 rfl) en) rfl rfl (check_d _) rfl rfl rfl rfl rfl rfl) ?_
    refine walk_gr (gd_ff rfl rfl rfl) rfl rfl rfl (op_neq rfl (ev2 rfl) (ev1 rfl)) ?_
    refine walk_gr (gd_t rfl rfl rfl) rfl rfl rfl (op_or rfl (ev2 rfl) (ev2 rfl)) ?_
    refine zab rfl rfl rfl (op_and rfl (ev1 rfl) (ev3 rfl id)) ?_
    refine walk_s rfl rfl (op_stwb rfl tb4 (ev1 rfl) (ev1 rfl) rfl) (by simp only [upd, zaa, za]; exact rfl) ?_
    refine zaf ?_
    refine dwp_ret ?_
    refine kend0 (rs1 rfl (rv_1 tb4 rfl rfl rfl)) rfl ?_
    rw [D.val.injEq, Value.bool.injEq, hun.1]
    rcases hE with h | h <;> simp [h]
end Go.Proofs.Ytoffbkjhoelghaa
