/- Values that came in and hold no address (numbers, bools, strings, and structs and arrays of these): their cells, opened; slices of such.  but the kernel's look at the type; Operations, one behind the other; a call by its contract; Ends of calls; structs built; bools and strings compared; least and greatest; slices taken over, and given up. Conditions: what a type is, by the kernel; From a contract to the statement: a law whose call returns true whatever its arguments read as; with listed variables, too.  but the kernel's look at the program; Arrays as values, indexed; slice variables that begin as nil; appended to a row that is nil; loops begun by hand; Arguments whose elements are slices themselves, opened, as deep as their types go.  but the kernel's look at the types; tiles, and canvases as they show; a tile as bytes; the document: a tile as bytes; a tile that is read, whole; tiles an. No condition. -/
import Derived.Test.YtcbfnbfhlofkiaaQ4
import Derived.Test.YtcbfnbfhlofkiaaRows
namespace Go.Proofs.Ytcbfnbfhlofkiaa
theorem ya {p : Prop} [Decidable p] : decide p = false ↔ ¬p := _root_.decide_eq_false_iff_not
theorem yb {α : Type _} [BEq α] [LawfulBEq α] {a b : α} : (a == b) = false ↔ a ≠ b := _root_.beq_eq_false_iff_ne
theorem yc {α : Type _} [BEq α] [LawfulBEq α] {a b : α} : (a != b) = false ↔ a = b := _root_.bne_eq_false_iff_eq
theorem yd {x y : Bool} : (x || y) = false ↔ x = false ∧ y = false := _root_.Bool.or_eq_false_iff
theorem ye {b : Bool} : ((!b) = false) = (b = true) := by cases b <;> simp
theorem yf {b : Bool} : ((!b) = true) = (b = false) := by cases b <;> simp
theorem yg {p : Prop} [Decidable p] : (decide p = true) = p := _root_.decide_eq_true_eq
theorem yh {a b : Bool} : ((a && b) = true) = (a = true ∧ b = true) := _root_.Bool.and_eq_true a b
theorem yi {a b : Bool} : ((a || b) = true) = (a = true ∨ b = true) := _root_.Bool.or_eq_true a b
theorem yj {p : Prop} [Decidable p] : ¬¬p ↔ p := _root_.Decidable.not_not
set_option linter.unusedVariables false
set_option linter.unusedSimpArgs false
open Go.RowKit Go.Deep
section
variable {H : Type} {enc : TypeId × Value → H} {P : Program} {w : World} {base : Nat} {spare : Nat → Bool} {held : Bool}
/-- a row in memory: each element's cells -/
def rowsAt {α : Type} (w : World) (b off sz : Nat) (en : α → List Value) (l : List α) : Prop :=
  b < w.heap.size ∧ ∀ k (h : k < l.length) j, j < sz → w.cell? ⟨b, off + k * sz + j, none⟩ = (en l[k])[j]?
/-- a slice's place and length, and what it holds -/
def rowV {α : Type} (W : World) (a0 : Option Addr) (len sz : Nat) (en : α → List Value) (l : List α) : Prop := len = l.length ∧ (l = [] ∨ ∃ b off, a0 = some ⟨b, off, none⟩ ∧ rowsAt W b off sz en l)
theorem list_of' {α : Type} (n : Nat) (p : Nat → α → Prop) (h : ∀ i, i < n → ∃ c, p i c) : ∃ l : List α, l.length = n ∧ ∀ i (hi : i < l.length), p i l[i] := by
  induction n with
  | zero => exact ⟨[], rfl, fun i hi => absurd hi (by simp)⟩
  | succ n ih =>
    obtain ⟨l, hl, hp⟩ := ih fun i hi => h i (by omega)
    obtain ⟨c, hc⟩ := h n (by omega)
    refine ⟨l ++ [c], by simp [hl], fun i hi => ?_⟩
    by_cases e : i < l.length
    · rw [List.getElem_append_left e]; exact hp i e
    · have : i = n := by simp [hl] at hi; omega
      subst this
      simp [List.getElem_append_right (show l.length ≤ i by omega), hl, hc]
/-- A slice whose elements hold no address, opened. -/
theorem open_row {α : Type} {t e : TypeId} {ps : List Prim} (f : Nat) (en : α → List Value) (ok : α → Prop) (hP : ∀ cs, fitsP ps cs → ∃ a, ok a ∧ cs = en a) (ht : P.underlying t = some (.slice e)) (hf : flatT P f e = some ps) (hc : P.cellsOf e = ps.length) (hpos : 0 < ps.length)
    {a0 : Option Addr} {len cap : Nat} {d : DataW H} {p : List MemPlace} (h : DataW.Trod enc P w base spare held t (.slice a0 len cap) d p) :
    ∃ l, rowV w a0 len ps.length en l ∧ (∀ a ∈ l, ok a) ∧ len ≤ cap ∧ cap ≤ maxLen ∧ (a0 = none → cap = 0) := by
  obtain ⟨fuel, hfu⟩ := h
  rcases open_slice ht hfu with ⟨hcs, hx⟩ | ⟨a, len', cap', m, n, D, Pl, hcs, _, hl, hm, hmm, hx, hel⟩
  · simp [Value.cells] at hcs
    obtain ⟨rfl, rfl, rfl⟩ := hcs
    exact ⟨[], ⟨rfl, .inl rfl⟩, by simp, Nat.le_refl _, Nat.zero_le _, fun _ => rfl⟩
  · simp [Value.cells] at hcs
    obtain ⟨rfl, rfl, rfl⟩ := hcs
    have hlm : len ≤ m := by rw [hmm]; split <;> omega
    rw [hc] at hel
    obtain ⟨l, hll, hp⟩ := list_of' len (fun i (c : α) => ok c ∧ w.cells? base (a.add (i * ps.length)) ps.length = some (en c)) (by
      intro i hi
      obtain ⟨cs, h1, h2⟩ := hel i (by omega)
      obtain ⟨c, hok, rfl⟩ := hP cs (flat_trod f _ _ _ _ _ hf h2)
      exact ⟨c, hok, h1⟩)
    refine ⟨l, ⟨hll.symm, ?_⟩, ?_, hl, hm, fun e => by cases e⟩
    · by_cases h0 : l = []
      · exact .inl h0
      · right
        have hlp : 0 < l.length := List.length_pos_iff.2 h0
        obtain ⟨b, off, spot⟩ := a
        have hg := World.cells?_some (hp 0 hlp).2
        have hc0 := hg.2.2 0 hpos
        rw [List.getElem?_eq_getElem (by rw [hg.2.1]; exact hpos)] at hc0
        replace hc0 : ∃ v0, w.cell? (((⟨b, off, spot⟩ : Addr).add (0 * ps.length)).add 0) = some v0 := ⟨_, hc0⟩
        obtain ⟨v0, hc0⟩ := hc0
        have hs := World.cell?_spot hc0
        have hspot : spot = none := by simpa [Addr.add] using hs
        subst hspot
        have hpl : ∀ o k, (⟨b, o, none⟩ : Addr).add k = ⟨b, o + k, none⟩ := fun o k => by simp [Addr.add]
        refine ⟨b, off, rfl, ?_, fun k hk j hj => ?_⟩
        · rw [hpl, hpl] at hc0
          exact World.block_lt_of_cell? _ _ hc0
        · have := (World.cells?_some (hp k hk).2).2.2 j hj
          rw [hpl, hpl] at this
          exact this
    · intro c hcm
      obtain ⟨i, hi, rfl⟩ := List.getElem_of_mem hcm
      exact (hp i hi).1
end
open Go.RowKit
section
variable {P : Program} {s0 : St} {n : Cx} {ops : Array Oper}
theorem gd_ff {o : Oper} {F : Fr} {j t : Nat} {g b : Bool} (h : o.guard = some (j, false)) (ht : (ops[j]?).bind (·.dst) = some t) (hl : lk F t = some (.opt g (.val (.bool b)))) : Gd ops o F (g && !b) := by
  unfold Gd; rw [h]; exact ⟨t, g, b, ht, .inl hl, by simp⟩
end

/-! ### names turned back -/
section
variable {P : Program} {fn : Func} {F : Fr} {M : List Blk} {t u v : Tmp} {d d' e f dr : D}
end
section
variable {P : Program} {pc : Bool} {o : Oper} {F : Fr} {M : List Blk}

/-! ### structs built -/
theorem op_eqb {T T' : TypeId} {x y : Operand} {p q : Bool} (ho : o.op = .binOp .eql T x y T') (hT : P.underlying T = some .bool) (hx : Ev pc F x (.val (.bool p))) (hy : Ev pc F y (.val (.bool q))) : DOp P pc o F M [] (.val (.bool (p == q))) [] :=
  op_eqv ho hx hy (fun w => by unfold eqGuard; rfl) fun w => by
    have h : ∀ d, (Op.equalIn (d + 1) T (.bool p) (.bool q)).run P w = .ok (p == q) w := fun d => by simp [Op.equalIn, run_underlying hT]
    show (do pure (Value.bool (← Op.equalIn (9999 + 1) T (.bool p) (.bool q))) : Sem Value).run P w = _
    rw [Sem.run_bind, h 9999]; rfl
end
section
variable {P : Program} {s0 : St} {n : Cx}
end
open Go.ChangeShapes Go.WideShapes Go.ChangeAt Go.RowKit Go.Joins Go.Deep
set_option maxRecDepth 100000
section
variable {H : Type} {enc : TypeId × Value → H} {w : World} {base b0 : Nat} {r : Reach} {spare : Nat → Bool} {held : Bool} {v : Value} {d : DataW H} {p : List MemPlace}
theorem rep_row {α : Type} {W : World} {a : Option Addr} {n cap sz : Nat} {en : α → List Value} {l : List α} (hx : rowV W a n sz en l) (hc : n ≤ cap) (hm : cap ≤ maxLen) (hnil : a = none → cap = 0) (hen : ∀ a, (en a).length = sz) : Rep (st0 W) (.slf sz l.length (l.flatMap en)) (.slice a n cap) := by
  obtain ⟨rfl, hx⟩ := hx
  refine .slf (flat_len hen l) hc hm hnil ?_
  rcases hx with rfl | ⟨b, off, rfl, hlt, hcell⟩
  · exact .inl rfl
  · refine .inr ⟨b, off, rfl, hlt, fun j u hj => ?_⟩
    show W.cell? ⟨b, off + j, none⟩ = some u
    have hjl : j < l.length * sz := by rw [← flat_len hen l]; exact (List.getElem?_eq_some_iff.1 hj).1
    have hsz : 0 < sz := by
      rcases Nat.eq_zero_or_pos sz with e | e
      · rw [e] at hjl; omega
      · exact e
    have hq : j / sz < l.length := (Nat.div_lt_iff_lt_mul hsz).2 hjl
    have hr := Nat.mod_lt j hsz
    have e : j = j / sz * sz + j % sz := by rw [Nat.mul_comm]; exact (Nat.div_add_mod j sz).symm
    rw [e, flat_cell hen hq hr] at hj
    have := hcell (j / sz) hq (j % sz) hr
    rw [hj] at this
    rw [e, ← Nat.add_assoc]
    exact this
end
section
variable {P : Program} {pc : Bool} {o : Oper} {F : Fr} {M : List Blk} {T : TypeId} {x y : Operand} {n sz : Nat} {k : IntKind} {z : Int} {α : Type} {en : α → List Value} {l : List α} {j : Nat}
/-- an array whose elements are rows -/
def arV (P : Program) (T : TypeId) : Option (Nat × Nat) := match P.underlying T with
  | some (.array n e) => match tyB P e with
    | some (true, sz) => some (n, sz)
    | _ => none
  | _ => none
theorem arV_spec (h : arV P T = some (n, sz)) : ∃ e, P.underlying T = some (.array n e) ∧ tyB P e = some (true, sz) := by
  unfold arV at h
  split at h
  · rename_i m e hu
    split at h
    · rename_i s hs; cases h; exact ⟨e, hu, hs⟩
    · cases h
  · cases h
theorem op_ixv (a0 : α) (ho : o.op = .index T x y) (hT : arV P T = some (n, sz)) (hx : Ev pc F x (.val (.agg (l.flatMap en).toArray))) (hy : Ev pc F y (.val (.int k z))) (hz : pc = true → z = (j : Int)) (hj : pc = true → j < n) (hl : l.length = n) (hen : ∀ a, (en a).length = sz) : DOp P pc o F M [] (.val (.agg (en (l.getD j a0)).toArray)) [] := by
  refine op_val2 hx hy (by simp [ho, Op.operands]) fun hp a w e1 e2 => ?_
  obtain ⟨e, hu, he⟩ := arV_spec hT
  obtain ⟨d, i, h1, h2, h3, h4⟩ := tyB_spec he
  have hz' := hz hp
  have hj' := hj hp
  subst hz'
  unfold execOp
  simp only [ho, e1, e2]
  refine run_v ?_
  have hagg : (isAgg e).run P w = .ok true w := by
    unfold isAgg
    rw [Sem.run_bind, run_underlying h1]
    cases d <;> first | rfl | cases h3
  have hsz : (sizeOf e).run P w = .ok sz w := by simp [sizeOf, typeInfo, h2, h4]
  have hb : (0 : Int) ≤ (j : Int) ∧ (j : Int) < (n : Int) := by omega
  have hpart : ((l.flatMap en).drop (j * sz)).take sz = en (l.getD j a0) := by rw [flat_one hen (by omega), getD_at (by omega)]
  unfold Instr.index
  simp only [Sem.run_bind, asIntOf, Sem.run_pure, Result.andThen_ok, run_underlying hu, hb, and_self, if_true, hsz, part, hagg, Int.toNat_natCast]
  simp only [List.extract_toArray, List.extract_eq_take_drop, Nat.add_sub_cancel_left, hpart]
end
section
variable {P : Program} {s0 : St} {n : Cx}
end
section
variable {α : Type} [DecidableEq α] {P : Program} {K E T : TypeId} {en : α → List Value} {pc : Bool} {o : Oper} {F : Fr} {M : List Blk} {x y z : Operand}
end
/-- cells that read as data, side by side, at the start -/
def Opens (P : Program) (w : World) {α : Type} (t : TypeId) (mk : α → List D) (ok : α → Prop) : Prop :=
  ∀ (H : Type) (enc : TypeId × Value → H) (base : Nat) (spare : Nat → Bool) (held : Bool) (n : Nat) (cs : List Value) (x : DataW H × List MemPlace), DataW.trod enc P w base spare held n t cs = some x → ∃ a, ok a ∧ Reps (st0 w) (mk a) cs
section
variable {P : Program} {w : World}
/-- a slice whose elements hold no address -/
theorem opens_row {α : Type} {t e : TypeId} {ps : List Prim} (f : Nat) (en : α → List Value) (ok : α → Prop) (hP : ∀ cs, fitsP ps cs → ∃ a, ok a ∧ cs = en a) (ht : P.underlying t = some (.slice e)) (hf : flatT P f e = some ps) (hc : P.cellsOf e = ps.length) (hpos : 0 < ps.length)
    (hen : ∀ a, (en a).length = ps.length) : Opens P w t (fun l : List α => [.slf ps.length l.length (l.flatMap en)]) (fun l => ∀ a ∈ l, ok a) := by
  intro H enc base spare held n cs x hx
  have hone : ∃ a len cap, cs = [.slice a len cap] := by
    rcases open_slice ht hx with ⟨hcs, _⟩ | ⟨a, len', cap', _, _, _, _, hcs, _⟩
    · exact ⟨_, _, _, hcs⟩
    · exact ⟨_, _, _, hcs⟩
  obtain ⟨a, len, cap, rfl⟩ := hone
  obtain ⟨l, h1, h2, h3, h4, h5⟩ := open_row f en ok hP ht hf hc hpos (d := x.1) (p := x.2) (show DataW.Trod enc P w base spare held t (.slice a len cap) x.1 x.2 from ⟨n, hx⟩)
  exact ⟨l, h2, reps_cons (rep_row h1 h3 h4 h5 hen) reps_nil⟩
end
/-- an argument that opens -/
theorem open_any {H : Type} {enc : TypeId × Value → H} {w : World} {base : Nat} {spare : Nat → Bool} {held : Bool} {α : Type} {t : TypeId} {mk : α → D} {ok : α → Prop} {v : Value} {d : DataW H} {p : List MemPlace} (ho : Opens Try.prog w t (fun a => [mk a]) ok) (hv : v.cells = #[v]) (h : DataW.Trod enc Try.prog w base spare held t v d p) :
    ∃ a, ok a ∧ Rep (st0 w) (mk a) v := by
  obtain ⟨fuel, hfu⟩ := h
  obtain ⟨a, hok, hr⟩ := ho H enc base spare held _ _ _ hfu
  rw [hv] at hr
  exact ⟨a, hok, hr.2 0 _ _ rfl rfl⟩
set_option maxRecDepth 4000
set_option maxRecDepth 4000 in
set_option maxHeartbeats 1000000 in
theorem cloneT (l : List TL) (h : l.length ≤ 5000) : DFun Try.prog 9 [.slf 256 l.length (l.flatMap tc)] [] (.arr 0) [.arr 29 256 l.length (l.flatMap tc)] := by
  refine dcalls_go (N := 8) 0 (by kernel_rfl) Try.func9 rfl rfl rfl (by simp only [fr0, Nat.zero_add, Nat.reduceAdd]; exact rfl) rfl fun s0 hs0 => ?_
  refine dwp_len (t := 0) rfl fun hl0 hL0 => ?_
  refine zaf ?_
  refine zad ?_
  refine zab rfl rfl rfl (zac (.inr rfl) (ev1 rfl)) ?_
  refine zae ?_
  refine zaf ?_
  refine zaf ?_
  refine zad ?_
  refine zab rfl rfl rfl (zac (.inl rfl) (ev1 rfl)) ?_
  refine walk_nil? rfl rfl rfl rfl sl22 (ev1 rfl) fun nb4 hnb4 => ?_
  refine zae ?_
  refine dwp_cond rfl (fun c1 => ?_) (fun c1 => ?_)
  · try simp only [yg, ya, beq_iff_eq, bne_iff_ne, yb, yc, yf, ye, yh, yi, yd, ne_eq, yj, Int.not_lt, Int.not_le] at c1
    refine zaf ?_
    refine zad ?_
    refine zab rfl rfl rfl (zac (.inr rfl) (ev1 rfl)) ?_
    refine zae ?_
    refine dwp_adopt 2 29 256 rfl rfl rfl ?_
    refine dwp_ret ?_
    refine kend [0] (rs1 rfl (rv_t rfl)) rfl rfl ?_ ⟨?_, trivial⟩
    rfl
    exact (by obtain ⟨h1, h2⟩ := hnb4 c1; simp_all [MFits, vwB])
  · try simp only [yg, ya, beq_iff_eq, bne_iff_ne, yb, yc, yf, ye, yh, yi, yd, ne_eq, yj, Int.not_lt, Int.not_le] at c1
    refine dwp_skip ?_
    refine zaf ?_
    refine zah 2 (by simp only [holes, List.cons_append, List.nil_append]; exact rfl) ?_
    refine zad ?_
    refine walk_w rfl rfl rfl (op_bsa (ps := []) 0 rfl sl22 zr29 rfl vn rfl (by decide) (by decide) rfl) (by simp only [upd, za, zaa]; exact rfl) ?_
    refine zab rfl rfl rfl (zac (.inl rfl) (ev1 rfl)) ?_
    refine walk_w rfl rfl rfl (op_app (j := 1) rfl sl22 zr29 rfl (ev1 rfl) (ev1 rfl) src_slf rfl rfl (fun _ => flat_oc (fun t => flat_oc (fun _ => rfl) t.l) l) (fun _ => ⟨by omega, by omega⟩)) (by simp only [upd, za, zaa]; exact rfl) ?_
    refine zab rfl rfl rfl (zac (.inr rfl) (ev1 rfl)) ?_
    refine zae ?_
    refine dwp_ret ?_
    refine kend [1] (rs1 rfl (rv_t rfl)) rfl rfl ?_ ⟨?_, trivial⟩
    rfl
    simp [vwB]
theorem cloneT_f (l : List TL) (h : l.length ≤ 5000) : DFun Try.prog 9 [.slf 256 l.length (l.flatMap tc)] [] (.slf 256 l.length (l.flatMap tc)) [] := freeze (cloneT l h) rfl
end Go.Proofs.Ytcbfnbfhlofkiaa
namespace Go.Proofs.Ytcbfnbfhlofkiaa
set_option maxRecDepth 4000
set_option linter.unusedVariables false
set_option linter.unusedSimpArgs false
open Go.RowKit
attribute [local irreducible] runG bytesG posG tileB
def rnG (t : TL) (k : Nat) : Nat × C4 := (runG t.l).getD k (1, zC4)
theorem rnG_eq {t : TL} {k : Nat} (hk : k < (runG t.l).length) : rnG t k = (runG t.l)[k] := by unfold rnG; rw [List.getD_eq_getElem?_getD, List.getElem?_eq_getElem hk]; rfl
end Go.Proofs.Ytcbfnbfhlofkiaa
namespace Go.Proofs.Ytcbfnbfhlofkiaa
set_option maxRecDepth 4000
set_option linter.unusedVariables false
set_option linter.unusedSimpArgs false
open Go.RowKit
attribute [local irreducible] runG bytesG posG tileB rnG
theorem av29 : arV Try.prog 29 = some (64, 4) := by kernel_rfl
set_option maxRecDepth 4000 in
set_option maxHeartbeats 1000000 in
theorem rdtile_d (t : TL) : DFun Try.prog 12 [tD t] [] (.slf 1 (tileB t).length ((tileB t).flatMap u8V)) [] := by
  refine dcalls_go (N := 39) 0 (by kernel_rfl) Try.func12 rfl rfl rfl (by simp only [fr0, Nat.zero_add, Nat.reduceAdd]; exact rfl) rfl fun s0 hs0 => ?_
  refine zaf ?_
  refine zah 1 (by simp only [holes, List.cons_append, List.nil_append]; exact rfl) ?_
  refine zad ?_
  refine walk_w rfl rfl rfl (op_boxa 0 rfl (ev1 rfl) rfl) (by simp only [upd, za, zaa]; exact rfl) ?_
  refine zab rfl rfl rfl (zac (.inr rfl) (ev1 rfl)) ?_
  refine zae ?_
  refine zaf ?_
  refine zad ?_
  refine zab rfl rfl rfl (zac (.inr rfl) (ev1 rfl)) ?_
  refine zae ?_
  refine zaf ?_
  refine zad ?_
  refine zab rfl rfl rfl (zac (.inr rfl) (ev1 rfl)) ?_
  refine zae ?_
  refine zaf ?_
  refine zaf ?_
  refine zad ?_
  refine zab rfl rfl rfl (op_ldw rfl tb29 (ev1 rfl) rfl (tc_len _)) ?_
  refine zab rfl rfl rfl (zac (.inl rfl) (ev1 rfl)) ?_
  refine zae ?_
  refine dwp_block ?_
  refine dwp_adopt 3 5 1 rfl rfl rfl ?_
  refine dwp_loopS ⟨hs0, rfl⟩ (α := Nat × Nat) (fun x => [(4, .val (.int .i64 (x.2 : Int))), (8, .val (.int .i64 ((posG (runG t.l) x.1 + x.2 : Nat) : Int)))]) [(1, _), (3, _), (7, _)] (fun x => [(1, .arr 5 1 (bytesG ((runG t.l).take (x.1))).length ((bytesG ((runG t.l).take (x.1))).flatMap u8V))]) [_, .hole] (fun x => x.1 ≤ (runG t.l).length ∧ (x.1 < (runG t.l).length → x.2 < (rnG t x.1).1) ∧ (x.1 = (runG t.l).length → x.2 = 0)) (fun x => 64 - (posG (runG t.l) x.1 + x.2)) (0, 0) [0, 1] (⟨Nat.zero_le _, fun h => by rw [rnG_eq h]; exact (runG_bd h).1, fun _ => rfl⟩) rfl ⟨rfl, rfl, rfl, trivial⟩ ⟨rfl, by rw [posG_zero]; rfl, trivial⟩ ⟨rfl, by rw [List.take_zero, bytesG_nil]; rfl, trivial⟩ ?_
  intro x hx
  simp only [upd, za, zaa, List.cons_append, List.nil_append]
  obtain ⟨k, m⟩ := x
  obtain ⟨hk0, hkm, hke⟩ := hx
  have hpf : posG (runG t.l) (k, m).fst = posG (runG t.l) k := rfl
  have hpm : (k, m).snd = m := rfl
  have hkm : k < (runG t.l).length → m < (rnG t k).1 := hkm
  have hke : k = (runG t.l).length → m = 0 := hke
  have hbl : (bytesG ((runG t.l).take k)).length ≤ 5000 := by
    have h1 := runG_len t.l
    have h2 := t.h
    rw [bytesG_len, List.length_take]; omega
  refine zaf ?_
  refine zad ?_
  refine zab rfl rfl rfl (op_lss rfl (ev1 rfl) (ev1 rfl)) ?_
  refine zae ?_
  refine zaf ?_
  refine dwp_cond rfl (fun c1 => ?_) (fun c1 => ?_)
  · try simp only [yg, ya, beq_iff_eq, bne_iff_ne, yb, yc, yf, ye, yh, yi, yd, ne_eq, yj, Int.not_lt, Int.not_le] at c1
    have hk : k < (runG t.l).length := by
      rcases Nat.lt_or_ge k (runG t.l).length with h | h
      · exact h
      · obtain rfl : k = (runG t.l).length := by omega
        rw [runG_pos] at c1
        omega
    obtain ⟨hn1, hn2⟩ := runG_bd hk
    have hm : m < (runG t.l)[k].1 := by have := hkm hk; rw [rnG_eq hk] at this; exact this
    have hga := runG_at hk hm
    refine dwp_skip ?_
    refine zaf ?_
    refine dwp_block ?_
    refine zaf ?_
    refine zah 1 (by simp only [holes, List.cons_append, List.nil_append]; exact rfl) ?_
    refine zad ?_
    refine zab rfl rfl rfl (zac (.inl rfl) (ev1 rfl)) ?_
    refine zab rfl rfl rfl ((op_ixv (j := posG (runG t.l) k + m) (zC4) rfl av29 (ev1 rfl) (ev1 rfl) (fun _ => by first | rfl | omega) (fun _ => by omega) ((TL.h _)) (fun _ => rfl)).wk (Wk.of_eq (d' := .val (.agg (c4 (runG t.l)[k].2).toArray)) (by rw [← hga]; rfl))) ?_
    refine walk_w rfl rfl rfl (op_alloc 2 rfl zr27 rfl) (by simp only [upd, za, zaa]; exact rfl) ?_
    refine zab rfl rfl rfl (zac (.inr rfl) (ev1 rfl)) ?_
    refine walk_s rfl rfl (op_stwa rfl tb27 (ev1 rfl) (ev1 rfl) rfl rfl rfl rfl) (by simp only [upd, za, zaa]; exact rfl) ?_
    refine zae ?_
    refine zaf ?_
    refine zad ?_
    refine zab rfl rfl rfl (zac (.inl rfl) (ev1 rfl)) ?_
    refine zab rfl rfl rfl (op_add' rfl (ev1 rfl) (ev1 rfl) (fun _ => IntWalk.i64_in _ (by omega))) ?_
    refine zab rfl rfl rfl (zac (.inr rfl) (ev1 rfl)) ?_
    refine zae ?_
    refine zaf ?_
    refine dwp_draw [([], []), ([], []), ([], []), ([], []), ([], []), ([], []), ([0], []), ([2], []), ([], []), ([], [])] mixed (by kernel_rfl) ?_
    refine zag rfl rfl (zac (.inl rfl) (ev1 rfl)) ?_
    refine zag rfl rfl (op_eql rfl (ev1 rfl) (ev1 rfl)) ?_
    refine zag rfl rfl (zac (.inl rfl) (ev1 rfl)) ?_
    refine lex_gr (gd_f rfl rfl rfl) rfl rfl (zac (.inl rfl) (ev1 rfl)) ?_
    refine lex_gr (gd_f rfl rfl rfl) rfl rfl (op_add' rfl (ev2 rfl) (ev1 rfl) (fun hp => IntWalk.i64_in _ (by first | omega | (simp at hp; omega)))) ?_
    refine lex_gr (gd_f rfl rfl rfl) rfl rfl (op_ixfr (j := posG (runG t.l) k + m + 1) rfl ar29 (ev1 rfl) (ev2 rfl) (fun hp => by first | omega | (simp at hp; omega)) (fun hp => by first | omega | (simp at hp; omega))) ?_
    refine lex_gr (gd_f rfl rfl rfl) rfl rfl (op_ldfr (zC4) rfl tb27 (ev2 rfl) rfl (fun _ => rfl) (fun hp => by rw [TL.h]; simp at hp; omega)) ?_
    refine lex_gr (gd_f rfl rfl rfl) rfl rfl (op_ldw rfl tb27 (ev1 rfl) rfl rfl) ?_
    refine lex_gr (gd_f rfl rfl rfl) rfl rfl (op_ner eq27 rfl gd27 tb27 (ev2 rfl) (ev2 rfl)) ?_
    refine zag rfl rfl (op_or rfl (ev1 rfl) (ev3 rfl id)) ?_
    refine lex_nil ?_
    refine dwp_cond rfl (fun c3 => ?_) (fun c3 => ?_)
    · have hm1 : m + 1 = (runG t.l)[k].1 := by
        rcases Nat.lt_or_ge (m + 1) (runG t.l)[k].1 with h | h
        · have h2 := runG_at hk h
          rw [← Nat.add_assoc] at h2
          simp at c3
          rcases c3 with c3 | c3
          · omega
          · exact absurd h2 c3
        · omega
      have hrk : (runG t.l)[k] = (m + 1, (runG t.l)[k].2) := by rw [hm1]
      refine zaf ?_
      refine zah 1 (by simp only [holes, List.cons_append, List.nil_append]; exact rfl) ?_
      refine zad ?_
      refine zab rfl rfl rfl (zac (.inl rfl) (ev1 rfl)) ?_
      refine zab rfl rfl rfl (zac (.inl rfl) (ev1 rfl)) ?_
      refine zab rfl rfl rfl (op_conv' ty3 kn5 rfl (ev1 rfl) (fun _ => IntWalk.u8_in _ (by omega))) ?_
      refine zab rfl rfl rfl (op_fa rfl fo27_0 (ev1 rfl)) ?_
      refine zab rfl rfl rfl (op_ldo rfl tb5 (ev1 rfl) rfl rfl) ?_
      refine zab rfl rfl rfl (op_fa rfl fo27_1 (ev1 rfl)) ?_
      refine zab rfl rfl rfl (op_ldo rfl tb5 (ev1 rfl) rfl rfl) ?_
      refine zab rfl rfl rfl (op_fa rfl fo27_2 (ev1 rfl)) ?_
      refine zab rfl rfl rfl (op_ldo rfl tb5 (ev1 rfl) rfl rfl) ?_
      refine zab rfl rfl rfl (op_fa rfl fo27_3 (ev1 rfl)) ?_
      refine zab rfl rfl rfl (op_ldo rfl tb5 (ev1 rfl) rfl rfl) ?_
      refine zab rfl rfl rfl (op_bs (ps := [(0, .tmp 26), (1, .tmp 28), (2, .tmp 30), (3, .tmp 32), (4, .tmp 34)]) rfl sl23 zr5 rfl (vc (ev1 rfl) (vc (ev1 rfl) (vc (ev1 rfl) (vc (ev1 rfl) (vc (ev1 rfl) vn))))) rfl (by decide) (by decide)) ?_
      refine walk_w rfl rfl rfl (op_app (j := 3) rfl sl23 zr5 rfl (ev1 rfl) (ev1 rfl) src_slf rfl rfl (fun _ => rfl) (fun _ => ⟨by omega, by omega⟩)) (by simp only [upd, za, zaa]; exact rfl) ?_
      refine zab rfl rfl rfl (zac (.inr rfl) (ev1 rfl)) ?_
      refine zae ?_
      refine zad ?_
      refine zab rfl rfl rfl (zac (.inr rfl) (ev1 rfl)) ?_
      refine zae ?_
      refine zad ?_
      refine zab rfl rfl rfl (op_add' rfl (ev1 rfl) (ev1 rfl) (fun _ => IntWalk.i64_in _ (by omega))) ?_
      refine zab rfl rfl rfl (zac (.inl rfl) (ev1 rfl)) ?_
      refine zae ?_
      have hpa := posG_add hk
      rw [← hm1] at hpa
      refine ⟨(k + 1, 0), [0, 3], ⟨hk, fun h => by rw [rnG_eq h]; exact (runG_bd h).1, fun _ => rfl⟩, (by show 64 - (posG (runG t.l) (k + 1) + 0) < 64 - (posG (runG t.l) k + m); omega), rfl, ⟨rfl, by rw [hpa]; rfl, rfl, rfl, rfl, trivial⟩, ⟨rfl, arr_eq (by rw [bytesG_take hk, List.length_append]; rfl) (by rw [bytesG_take hk, List.flatMap_append, hrk]; rfl), trivial⟩⟩
    · have hm2 : m + 1 < (runG t.l)[k].1 := by
        rcases Nat.lt_or_ge (m + 1) (runG t.l)[k].1 with h | h
        · exact h
        · have hmn : m + 1 = (runG t.l)[k].1 := by omega
          simp at c3
          have h2 := runG_not hk (by omega)
          rw [← hmn, ← Nat.add_assoc] at h2
          exact absurd c3.2 h2
      refine dwp_skip ?_
      refine zad ?_
      refine zab rfl rfl rfl (op_add' rfl (ev1 rfl) (ev1 rfl) (fun _ => IntWalk.i64_in _ (by omega))) ?_
      refine zab rfl rfl rfl (zac (.inl rfl) (ev1 rfl)) ?_
      refine zae ?_
      refine ⟨(k, m + 1), [0, 1], ⟨hk0, fun _ => by rw [rnG_eq hk]; omega, fun h => absurd h (by omega)⟩, (by show 64 - (posG (runG t.l) k + (m + 1)) < 64 - (posG (runG t.l) k + m); omega), rfl, ⟨rfl, rfl, rfl, rfl, rfl, trivial⟩, ⟨rfl, rfl, trivial⟩⟩
  · try simp only [yg, ya, beq_iff_eq, bne_iff_ne, yb, yc, yf, ye, yh, yi, yd, ne_eq, yj, Int.not_lt, Int.not_le] at c1
    have hke2 : k = (runG t.l).length := by
      rcases Nat.lt_or_ge k (runG t.l).length with h | h
      · have h1 := runG_bd h
        have h2 := hkm h
        rw [rnG_eq h] at h2
        omega
      · omega
    refine dwp_exit ?_
    refine zaf ?_
    refine dwp_giveA 3 rfl rfl (by simp only [za, zaa]; exact rfl) ?_
    subst hke2
    rw [List.take_length]
    refine zad ?_
    refine zab rfl rfl rfl (zac (.inl rfl) (ev1 rfl)) ?_
    refine zab rfl rfl rfl (zac (.inr rfl) (ev1 rfl)) ?_
    refine zae ?_
    refine dwp_ret ?_
    refine kend0 (rs1 rfl (rv_t rfl)) rfl ?_
    unfold tileB
    rfl
end Go.Proofs.Ytcbfnbfhlofkiaa
namespace Go.Proofs.Ytcbfnbfhlofkiaa
set_option maxRecDepth 4000
set_option linter.unusedVariables false
set_option linter.unusedSimpArgs false
open Go.RowKit
attribute [local irreducible] padT rdP rdN mayG
set_option maxRecDepth 4000 in
set_option maxHeartbeats 1000000 in
theorem runs1_ok (B : List Int) (hB : B.length ≤ 4000000000000000000) (hi : isB B) (p0 : Nat) (hp : p0 ≤ B.length) (l : List C4) (q : Nat) (h0 : rdN B p0 = some (l, q)) : DFun Try.prog 62 [.yld 0, .loc 3 0] [.lp (some 34) 48 [(3, .loc 1 0), (4, .loc 2 0)] #[8] tlrA tlrB .ready none, .flat 29 (tc zT), .flat 3 [.int .i64 0], .mix 93 [.loc 4 0], .mix 71 [.val (.int .i64 0), .val (.int .i64 0), .val (.slice none 0 0), .slf 1 (B).length ((B).flatMap u8V), .val (.int .i64 (p0 : Int))]] (.tup []) [.lp (some 34) 48 [(3, .loc 1 0), (4, .loc 2 0)] #[8] tlrA tlrB .done (some (.exit 0)), .flat 29 (tc (padT l)), .flat 3 [.int .i64 64], .mix 93 [.loc 4 0], .mix 71 [.val (.int .i64 0), .val (.int .i64 0), .val (.slice none 0 0), .slf 1 (B).length ((B).flatMap u8V), .val (.int .i64 (q : Int))]] := by
  refine dcalls_go (N := 27) 5 (by kernel_rfl) Try.func62 rfl rfl rfl (by simp only [fr0, Nat.zero_add, Nat.reduceAdd]; exact rfl) rfl fun s0 hs0 => ?_
  refine dwp_block ?_
  refine dwp_loopS ⟨hs0, rfl⟩ (α := Nat × List C4 × Nat) (fun x => []) [(0, _), (1, _)] (fun x => [(1, .flat 29 (tc (padT x.2.1))), (2, .flat 3 [.int .i64 (x.2.1.length : Int)]), (4, .mix 71 [.val (.int .i64 0), .val (.int .i64 0), .val (.slice none 0 0), .slf 1 (B).length ((B).flatMap u8V), .val (.int .i64 (x.2.2 : Int))])]) [_, .hole, .hole, _, .hole] (fun x => x.2.1.length < 64 ∧ x.2.2 ≤ B.length ∧ rdP B x.1 x.2.1 x.2.2 = some (l, q)) (fun x => 64 - x.2.1.length) (64, [], p0) [0, 1, 2, 3, 4] (⟨by show 0 < 64; decide, hp, by unfold rdN at h0; exact h0⟩) rfl ⟨rfl, rfl, trivial⟩ trivial ⟨rfl, by rw [padT_nil]; rfl, rfl, rfl, rfl, trivial⟩ ?_
  intro x hx
  simp only [upd, za, zaa, List.cons_append, List.nil_append]
  obtain ⟨f, acc, p⟩ := x
  obtain ⟨ha, hpl, hrd⟩ := hx
  dsimp only at ha hpl hrd ⊢
  obtain ⟨h5, hm, hz, hy⟩ := rdP_some hrd
  have hmg := (mayG_iff.1 hm).1
  refine dwp_block ?_
  refine zaf ?_
  refine zad ?_
  refine zab rfl rfl rfl (op_ldm rfl tb93 (ev1 rfl) rfl rfl) ?_
  refine walk_w rfl rfl rfl (zaj [4] [] [] rfl (ev1 rfl) (ec (ev1 rfl) (ec (ev1 rfl) en)) rfl rfl (take5 B hB p h5) rfl rfl rfl rfl rfl rfl) (by simp only [upd, za, zaa]; exact rfl) ?_
  refine zab rfl rfl rfl (zac (.inr rfl) (ev1 rfl)) ?_
  refine zae ?_
  refine zaf ?_
  by_cases hd : acc.length + (runAt B p).1.toNat = 64
  · refine dwp_draw [([], []), ([], []), ([], []), ([], []), ([], []), ([], []), ([], []), ([], []), ([], []), ([], []), ([], []), ([], []), ([], []), ([], []), ([], []), ([], []), ([], []), ([], []), ([], []), ([0, 1, 2], [0, 1, 2]), ([], [])] mixed (by kernel_rfl) ?_
    refine zag rfl rfl (zac (.inl rfl) (ev1 rfl)) ?_
    refine zag rfl rfl (zac (.inl rfl) (ev1 rfl)) ?_
    refine zag rfl rfl (op_ixsr (l := (row5 B p)) (en := u8V) (j := 0) rfl sl23 (ev1 rfl) (ev1 rfl) (fun _ => rfl) (by decide) rfl (Nat.lt_of_succ_le (Nat.le_of_ble_eq_true rfl))) ?_
    refine zag rfl rfl ((op_ldod rfl tb5 (ev1 rfl) rfl).wk (Wk.of_eq (d' := .val (.int .u8 (bAt B p))) rfl)) ?_
    refine zag rfl rfl (op_conv' ty5 kn3 rfl (ev1 rfl) (fun _ => by have := bAt_in hi p; exact IntWalk.i64_in _ (by omega))) ?_
    refine zag rfl rfl (zac (.inl rfl) (ev1 rfl)) ?_
    refine zag rfl rfl (op_ixsr (l := (row5 B p)) (en := u8V) (j := 1) rfl sl23 (ev1 rfl) (ev1 rfl) (fun _ => rfl) (by decide) rfl (Nat.lt_of_succ_le (Nat.le_of_ble_eq_true rfl))) ?_
    refine zag rfl rfl (op_ldod rfl tb5 (ev1 rfl) rfl) ?_
    refine zag rfl rfl (zac (.inl rfl) (ev1 rfl)) ?_
    refine zag rfl rfl (op_ixsr (l := (row5 B p)) (en := u8V) (j := 2) rfl sl23 (ev1 rfl) (ev1 rfl) (fun _ => rfl) (by decide) rfl (Nat.lt_of_succ_le (Nat.le_of_ble_eq_true rfl))) ?_
    refine zag rfl rfl (op_ldod rfl tb5 (ev1 rfl) rfl) ?_
    refine zag rfl rfl (zac (.inl rfl) (ev1 rfl)) ?_
    refine zag rfl rfl (op_ixsr (l := (row5 B p)) (en := u8V) (j := 3) rfl sl23 (ev1 rfl) (ev1 rfl) (fun _ => rfl) (by decide) rfl (Nat.lt_of_succ_le (Nat.le_of_ble_eq_true rfl))) ?_
    refine zag rfl rfl (op_ldod rfl tb5 (ev1 rfl) rfl) ?_
    refine zag rfl rfl (zac (.inl rfl) (ev1 rfl)) ?_
    refine zag rfl rfl (op_ixsr (l := (row5 B p)) (en := u8V) (j := 4) rfl sl23 (ev1 rfl) (ev1 rfl) (fun _ => rfl) (by decide) rfl (Nat.lt_of_succ_le (Nat.le_of_ble_eq_true rfl))) ?_
    refine zag rfl rfl (op_ldod rfl tb5 (ev1 rfl) rfl) ?_
    refine zag rfl rfl (op_build (ps := [(0, .tmp 13), (1, .tmp 16), (2, .tmp 19), (3, .tmp 22)]) rfl fl27 zr27 (vc (ev1 rfl) (vc (ev1 rfl) (vc (ev1 rfl) (vc (ev1 rfl) vn)))) rfl rfl) ?_
    refine zag rfl rfl (op_build (ps := [(0, .tmp 10), (1, .tmp 23)]) rfl fl68 zr68 (vc (ev1 rfl) (vc (ev1 rfl) vn)) rfl rfl) ?_
    refine lex_w rfl rfl (op_y (i := 0) [0, 1, 2] [] [] rfl (ev1 rfl) (ec (ev1 rfl) en) rfl rfl rfl (tr_z acc (bAt B p) (runAt B p).2 ha hm hd) rfl rfl rfl rfl rfl) rfl (by simp only [upd, za, zaa]; exact rfl) ?_
    refine zag rfl rfl (op_not rfl (ev1 rfl)) ?_
    refine lex_nil ?_
    refine dwp_if_t rfl (rfl) ?_
    refine dwp_ret ?_
    obtain ⟨rfl, rfl⟩ := hz hd
    have hd2 : acc.length + (bAt B p).toNat = 64 := hd
    rw [hd2]
    refine kend [0, 1, 2, 3, 4] (res_none rfl) rfl rfl ?_ ⟨rfl, rfl, rfl, rfl, rfl, trivial⟩
    rfl
  · have hmn : (runAt B p).1 = bAt B p := rfl
    refine dwp_draw [([], []), ([], []), ([], []), ([], []), ([], []), ([], []), ([], []), ([], []), ([], []), ([], []), ([], []), ([], []), ([], []), ([], []), ([], []), ([], []), ([], []), ([], []), ([], []), ([0, 1, 2], [0, 1, 2]), ([], [])] mixed (by kernel_rfl) ?_
    refine zag rfl rfl (zac (.inl rfl) (ev1 rfl)) ?_
    refine zag rfl rfl (zac (.inl rfl) (ev1 rfl)) ?_
    refine zag rfl rfl (op_ixsr (l := (row5 B p)) (en := u8V) (j := 0) rfl sl23 (ev1 rfl) (ev1 rfl) (fun _ => rfl) (by decide) rfl (Nat.lt_of_succ_le (Nat.le_of_ble_eq_true rfl))) ?_
    refine zag rfl rfl ((op_ldod rfl tb5 (ev1 rfl) rfl).wk (Wk.of_eq (d' := .val (.int .u8 (bAt B p))) rfl)) ?_
    refine zag rfl rfl (op_conv' ty5 kn3 rfl (ev1 rfl) (fun _ => by have := bAt_in hi p; exact IntWalk.i64_in _ (by omega))) ?_
    refine zag rfl rfl (zac (.inl rfl) (ev1 rfl)) ?_
    refine zag rfl rfl (op_ixsr (l := (row5 B p)) (en := u8V) (j := 1) rfl sl23 (ev1 rfl) (ev1 rfl) (fun _ => rfl) (by decide) rfl (Nat.lt_of_succ_le (Nat.le_of_ble_eq_true rfl))) ?_
    refine zag rfl rfl (op_ldod rfl tb5 (ev1 rfl) rfl) ?_
    refine zag rfl rfl (zac (.inl rfl) (ev1 rfl)) ?_
    refine zag rfl rfl (op_ixsr (l := (row5 B p)) (en := u8V) (j := 2) rfl sl23 (ev1 rfl) (ev1 rfl) (fun _ => rfl) (by decide) rfl (Nat.lt_of_succ_le (Nat.le_of_ble_eq_true rfl))) ?_
    refine zag rfl rfl (op_ldod rfl tb5 (ev1 rfl) rfl) ?_
    refine zag rfl rfl (zac (.inl rfl) (ev1 rfl)) ?_
    refine zag rfl rfl (op_ixsr (l := (row5 B p)) (en := u8V) (j := 3) rfl sl23 (ev1 rfl) (ev1 rfl) (fun _ => rfl) (by decide) rfl (Nat.lt_of_succ_le (Nat.le_of_ble_eq_true rfl))) ?_
    refine zag rfl rfl (op_ldod rfl tb5 (ev1 rfl) rfl) ?_
    refine zag rfl rfl (zac (.inl rfl) (ev1 rfl)) ?_
    refine zag rfl rfl (op_ixsr (l := (row5 B p)) (en := u8V) (j := 4) rfl sl23 (ev1 rfl) (ev1 rfl) (fun _ => rfl) (by decide) rfl (Nat.lt_of_succ_le (Nat.le_of_ble_eq_true rfl))) ?_
    refine zag rfl rfl (op_ldod rfl tb5 (ev1 rfl) rfl) ?_
    refine zag rfl rfl (op_build (ps := [(0, .tmp 13), (1, .tmp 16), (2, .tmp 19), (3, .tmp 22)]) rfl fl27 zr27 (vc (ev1 rfl) (vc (ev1 rfl) (vc (ev1 rfl) (vc (ev1 rfl) vn)))) rfl rfl) ?_
    refine zag rfl rfl (op_build (ps := [(0, .tmp 10), (1, .tmp 23)]) rfl fl68 zr68 (vc (ev1 rfl) (vc (ev1 rfl) vn)) rfl rfl) ?_
    refine lex_w rfl rfl (op_y (i := 0) [0, 1, 2] [] [] rfl (ev1 rfl) (ec (ev1 rfl) en) rfl rfl rfl (tr_y acc (bAt B p) (runAt B p).2 ha hm (by omega)) rfl rfl rfl rfl rfl) rfl (by simp only [upd, za, zaa]; exact rfl) ?_
    refine zag rfl rfl (op_not rfl (ev1 rfl)) ?_
    refine lex_nil ?_
    refine dwp_if_f rfl (rfl) ?_
    refine dwp_skip ?_
    refine ⟨(f - 1, acc ++ List.replicate (runAt B p).1.toNat (runAt B p).2, p + 5), [0, 1, 2, 3, 4], ⟨by simp only [List.length_append, List.length_replicate]; omega, h5, hy hd⟩, by simp only [List.length_append, List.length_replicate]; omega, rfl, ⟨rfl, rfl, trivial⟩, ⟨rfl, rfl, by rw [List.length_append, List.length_replicate]; rfl, rfl, rfl, trivial⟩⟩
set_option maxRecDepth 4000 in
set_option maxHeartbeats 1000000 in
theorem rtl_ok (B : List Int) (hB : B.length ≤ 4000000000000000000) (hi : isB B) (p0 : Nat) (hp : p0 ≤ B.length) (l : List C4) (q : Nat) (h0 : rdN B p0 = some (l, q)) : DFun Try.prog 34 [.loc 0 0] [.mix 71 [.val (.int .i64 0), .val (.int .i64 0), .val (.slice none 0 0), .slf 1 (B).length ((B).flatMap u8V), .val (.int .i64 (p0 : Int))]] (.val (.agg (tc (padT l)).toArray)) [.mix 71 [.val (.int .i64 0), .val (.int .i64 0), .val (.slice none 0 0), .slf 1 (B).length ((B).flatMap u8V), .val (.int .i64 (q : Int))]] := by
  refine dcalls_goK (N := 48) 1 (by kernel_rfl) Try.func34 rfl rfl rfl (by simp only [fr0, Nat.zero_add, Nat.reduceAdd]; exact rfl) rfl fun s0 hs0 => ?_
  refine dwpK_seq ?_
  refine dwpK_of ?_
  refine zah 1 (by simp only [holes, List.cons_append, List.nil_append]; exact rfl) ?_
  refine zad ?_
  refine walk_w rfl rfl rfl (op_alloc 1 rfl zr29 rfl) (by simp only [upd, za, zaa]; exact rfl) ?_
  refine zae ?_
  refine dwpK_scope ?_
  refine dwpK_seq ?_
  refine dwpK_of ?_
  refine zah 1 (by simp only [holes, List.cons_append, List.nil_append]; exact rfl) ?_
  refine zad ?_
  refine walk_w rfl rfl rfl (op_alloc 2 rfl zr29 rfl) (by simp only [upd, za, zaa]; exact rfl) ?_
  refine zae ?_
  refine dwpK_seq ?_
  refine dwpK_of ?_
  refine zah 1 (by simp only [holes, List.cons_append, List.nil_append]; exact rfl) ?_
  refine zad ?_
  refine walk_w rfl rfl rfl (op_alloc 3 rfl zr3 rfl) (by simp only [upd, za, zaa]; exact rfl) ?_
  refine walk_s rfl rfl (op_stwi rfl tb3 (ev1 rfl) (ev1 rfl) rfl) (by simp only [upd, za, zaa]; exact rfl) ?_
  refine zae ?_
  refine dwpK_seq ?_
  refine dwpK_of ?_
  refine dwp_label ?_
  refine dwpK_seq ?_
  refine dwpK_seq ?_
  refine dwpK_of ?_
  refine zah 1 (by simp only [holes, List.cons_append, List.nil_append]; exact rfl) ?_
  refine zad ?_
  refine zab rfl rfl rfl (zac (.inl rfl) (ev1 rfl)) ?_
  refine walk_w rfl rfl rfl (zaj [0] [] [4] rfl (ev1 rfl) (ec (ev1 rfl) en) rfl rfl (runs_d B hB p0) rfl rfl rfl rfl rfl rfl) (by simp only [upd, za, zaa]; exact rfl) ?_
  refine zae ?_
  refine dwpK_block ?_
  refine dwpK_hole ?_
  simp only [List.cons_append, List.nil_append]
  refine dwpK_rfn (FL := [(3, _), (4, _)]) (st := .done) (pe := (some (.exit 0))) [5, 2, 3, 4, 0] [] [] 5 rfl rfl (ev1 rfl) rfl (subF_lk ⟨rfl, rfl, trivial⟩) rfl rfl rfl (runs1_ok B hB hi p0 hp l q h0) rfl rfl rfl rfl rfl rfl rfl (by simp) (fun e => ?_) (fun c e => ?_)
  · cases e
  · cases e
    simp only [upd, za, zaa]
    refine dwp_exit ?_
    refine dwpK_of ?_
    refine zaf ?_
    refine zad ?_
    refine zab rfl rfl rfl (op_ldw rfl tb29 (ev1 rfl) rfl (tc_len _)) ?_
    refine walk_s rfl rfl (op_stwa rfl tb29 (ev1 rfl) (ev1 rfl) rfl (tc_len _) (tc_oc _) ((tc_len _).trans (tc_len _).symm)) (by simp only [upd, za, zaa]; exact rfl) ?_
    refine zae ?_
    refine dwp_ret ?_
    refine kend [0] (rs1 rfl (rv_w tb29 rfl rfl (tc_len _))) rfl rfl ?_ ⟨rfl, trivial⟩
    rfl
end Go.Proofs.Ytcbfnbfhlofkiaa
namespace Go.Proofs.Ytcbfnbfhlofkiaa
set_option maxRecDepth 4000
set_option linter.unusedVariables false
set_option linter.unusedSimpArgs false
open Go.RowKit
attribute [local irreducible] padT rdP rdN mayG
set_option maxRecDepth 4000 in
set_option maxHeartbeats 1000000 in
theorem rt1_idle (t : TL) (n e : Int) : DDef Try.prog 32 [.loc 0 0, .loc 1 0, .loc 2 0] [.flat 29 (tc t), .flat 3 [.int .i64 n], .flat 33 [.int .i64 e]] none none [.flat 29 (tc t), .flat 3 [.int .i64 n], .flat 33 [.int .i64 e]] := by
  refine ddef_go (dr := .tup []) (t := 3) (N := 6) 3 (by kernel_rfl) Try.func32 rfl rfl rfl (by simp only [fr0, Nat.zero_add, Nat.reduceAdd]; exact rfl) rfl rfl rfl rfl rfl fun s0 hs0 => ?_
  refine zab rfl rfl rfl (zaj [] [] [] rfl (ev1 rfl) (ec (ev1 rfl) en) rfl rfl (failed_no) rfl rfl rfl rfl rfl rfl) ?_
  refine zae ?_
  refine dwp_if_f rfl (rfl) ?_
  refine dwp_skip ?_
  refine kend [0, 1, 2] (res_none rfl) rfl rfl ?_ ⟨rfl, rfl, rfl, trivial⟩
  rfl
set_option maxRecDepth 4000 in
set_option maxHeartbeats 1000000 in
theorem rdt_ok (B : List Int) (hB : B.length ≤ 4000000000000000000) (hi : isB B) (l : List C4) (q : Nat) (h0 : rdN B 0 = some (l, q)) : DFun Try.prog 14 [.slf 1 (B).length ((B).flatMap u8V)] [] (.tup [.val (.agg (tc (padT l)).toArray), .val (.int .i64 (q : Nat)), .val (.int .i64 0)]) [] := by
  refine dcalls_body (N := 13) 0 (by kernel_rfl) Try.func14 rfl rfl rfl (by simp only [fr0, Nat.zero_add, Nat.reduceAdd]; exact rfl) rfl fun s0 hs0 => ?_
  refine dbody_seq rfl hs0 ?_
  refine zah 3 (by simp only [holes, List.cons_append, List.nil_append]; exact rfl) ?_
  refine zad ?_
  refine walk_w rfl rfl rfl (op_alloc 0 rfl zr29 rfl) (by simp only [upd, za, zaa]; exact rfl) ?_
  refine walk_w rfl rfl rfl (op_alloc 1 rfl zr3 rfl) (by simp only [upd, za, zaa]; exact rfl) ?_
  refine walk_w rfl rfl rfl (op_alloc 2 rfl zr33 rfl) (by simp only [upd, za, zaa]; exact rfl) ?_
  refine zae ?_
  refine dbody_defer (l0 := [_]) rfl rfl rfl rfl rfl hs0 ?_
  refine zab rfl rfl rfl (op_mkf rfl en (ec (ev1 rfl) (ec (ev1 rfl) (ec (ev1 rfl) en)))) ?_
  refine zae ⟨_, _, _, 3, ev1 rfl, Nat.le_trans hs0 (by decide), rfl, ?_⟩
  have hs1 : s0.M.length ≤ 3 := Nat.le_trans hs0 (by decide)
  refine dbody_end rfl hs0 ?_
  refine zaf ?_
  refine zah 1 (by simp only [holes, List.cons_append, List.nil_append]; exact rfl) ?_
  refine zad ?_
  refine zab rfl rfl rfl (zac (.inl rfl) (ev1 rfl)) ?_
  refine zab rfl rfl rfl (op_bldD (ps := [(1, .tmp 7)]) rfl fl71 zr71 (ec (ev1 rfl) en) rfl rfl rfl) ?_
  refine walk_w rfl rfl rfl (op_alloc 3 rfl zr71 rfl) (by simp only [upd, za, zaa]; exact rfl) ?_
  refine walk_s rfl rfl (op_stam rfl tb71 (ev1 rfl) (ev1 rfl) rfl rfl rfl rfl) (by simp only [upd, za, zaa]; exact rfl) ?_
  refine zae ?_
  refine zaf ?_
  refine zad ?_
  refine walk_w rfl rfl rfl (zaj [3] [] [] rfl (ev1 rfl) (ec (ev1 rfl) en) rfl rfl (rtl_ok B hB hi 0 (Nat.zero_le _) l q h0) rfl rfl rfl rfl rfl rfl) (by simp only [upd, za, zaa]; exact rfl) ?_
  refine walk_s rfl rfl (op_stwa rfl tb29 (ev1 rfl) (ev1 rfl) rfl (tc_len _) (tc_oc _) ((tc_len _).trans (tc_len _).symm)) (by simp only [upd, za, zaa]; exact rfl) ?_
  refine zae ?_
  refine zaf ?_
  refine dwp_draw [([0], []), ([], []), ([3], []), ([0], [0]), ([1], [1]), ([2], [2])] mixed (by kernel_rfl) ?_
  refine zag rfl rfl (op_ldw rfl tb29 (ev1 rfl) rfl (tc_len _)) ?_
  refine zag rfl rfl (op_fa rfl fo71_2 (ev1 rfl)) ?_
  refine zag rfl rfl (op_ldm rfl tb3 (ev1 rfl) rfl rfl) ?_
  refine lex_s rfl rfl (op_stwa rfl tb29 (ev1 rfl) (ev1 rfl) rfl (tc_len _) (tc_oc _) ((tc_len _).trans (tc_len _).symm)) rfl (by simp only [upd, za, zaa]; exact rfl) ?_
  refine lex_s rfl rfl (op_stwi rfl tb3 (ev1 rfl) (ev1 rfl) rfl) rfl (by simp only [upd, za, zaa]; exact rfl) ?_
  refine lex_s rfl rfl (op_stwi rfl tb33 (ev1 rfl) (ev1 rfl) rfl) rfl (by simp only [upd, za, zaa]; exact rfl) ?_
  refine lex_nil ?_
  refine dwp_ret ?_
  refine kdef (dturn_idle [0, 1, 2] [] rfl rfl (rt1_idle _ _ _) rfl rfl rfl rfl rfl) ?_
  refine kend0 (rs3 rfl (rv_w tb29 rfl rfl (tc_len _)) (rv_1 tb3 rfl rfl rfl) (rv_1 tb33 rfl rfl rfl)) rfl ?_
  rfl
end Go.Proofs.Ytcbfnbfhlofkiaa
namespace Go.Proofs.Ytcbfnbfhlofkiaa
set_option maxRecDepth 4000
set_option linter.unusedVariables false
set_option linter.unusedSimpArgs false
open Go.RowKit
attribute [local irreducible] padT rdP rdN mayG rdNs runG bytesG posG tileB tilesB canvasB patchB
theorem cloneB_f (l : List Int) (h : l.length ≤ 1000000) : DFun Try.prog 13 [.slf 1 l.length (l.flatMap u8V)] [] (.slf 1 l.length (l.flatMap u8V)) [] := freeze (cloneB l h) rfl
end Go.Proofs.Ytcbfnbfhlofkiaa
namespace Go.Proofs.Ytcbfnbfhlofkiaa
set_option maxRecDepth 4000
set_option linter.unusedVariables false
set_option linter.unusedSimpArgs false
open Go.RowKit
theorem rdN_bytes {B : List Int} {l : List C4} {q : Nat} (h : rdN B 0 = some (l, q)) : B = tileB (padT l) ++ B.drop q ∧ q = (tileB (padT l)).length ∧ q ≤ B.length ∧ (padT l).l = l := by
  have e := rdN_T (B := B) (p := 0) (Nat.zero_le _)
  rw [h, List.drop_zero] at e
  have hb : B = tileB (padT l) ++ B.drop q := rdT_iff.1 e
  obtain ⟨g1, _, g3⟩ := rdN_le h
  refine ⟨hb, ?_, g1, by rw [padT_full g3]⟩
  have := congrArg List.length hb
  rw [List.length_append, List.length_drop] at this
  omega
theorem rdN_tile (t : TL) (rest : List Int) : rdN (tileB t ++ rest) 0 = some (t.l, (tileB t).length) := by
  have e := rdN_T (B := tileB t ++ rest) (p := 0) (Nat.zero_le _)
  rw [List.drop_zero, rdT_iff.2 rfl] at e
  cases hx : rdN (tileB t ++ rest) 0 with
  | none => rw [hx] at e; cases e
  | some x =>
    obtain ⟨l, q⟩ := x
    rw [hx] at e
    obtain ⟨e1, e2⟩ := Prod.mk.inj (Option.some.inj e)
    obtain ⟨_, g2, _, g4⟩ := rdN_bytes hx
    rw [← g4, g2, ← e1]
theorem isB_take {a : List Int} (ha : isB a) (n : Nat) : isB (a.take n) := fun z hz => ha z (List.mem_of_mem_take hz)
set_option maxRecDepth 4000
open Go.ChangeShapes Go.WideShapes Go.ChangeAt Go.Joins Go.Deep
theorem opens_rowz {α : Type} {w : World} {t e : TypeId} {ps : List Prim} {sz : Nat} (f : Nat) (en : α → List Value) (ok : α → Prop) (hP : ∀ cs, fitsP ps cs → ∃ a, ok a ∧ cs = en a) (ht : Try.prog.underlying t = some (.slice e)) (hf : flatT Try.prog f e = some ps) (hz : ps.length = sz) (hc : Try.prog.cellsOf e = sz) (hpos : 0 < sz)
    (hen : ∀ a, (en a).length = sz) : Opens Try.prog w t (fun l : List α => [.slf sz l.length (l.flatMap en)]) (fun l => ∀ a ∈ l, ok a) := by
  subst hz
  exact opens_row f en ok hP ht hf hc hpos hen
abbrev kT : List Prim := (List.replicate 64 [.int .u8, .int .u8, .int .u8, .int .u8]).flatten
theorem kT_len : kT.length = 256 := by kernel_rfl
theorem opens_tls {w : World} : Opens Try.prog w 22 (fun l : List TL => [.slf 256 l.length (l.flatMap tc)]) (fun l => ∀ x ∈ l, ∀ c ∈ x.l, c.rng) :=
  opens_rowz 4 tc (fun t => ∀ c ∈ t.l, c.rng) fits_tl Try.underlying22 (show flatT Try.prog 4 29 = some kT by kernel_rfl) kT_len (by kernel_rfl) (by decide) tc_len
theorem fits_u8V : ∀ cs, fitsP [.int .u8] cs → ∃ a : Int, (0 ≤ a ∧ a ≤ 255) ∧ cs = u8V a
  | [c0], h => by
    obtain ⟨h0, _⟩ := h
    obtain ⟨a, w, rfl⟩ := fits_u8 h0
    exact ⟨a, w, rfl⟩
  | [], h => by cases h
  | _ :: _ :: _, h => by obtain ⟨_, h⟩ := h; cases h
set_option maxRecDepth 4000
theorem tileB_runs (t : TL) : (tileB t).length = (runG t.l).length * 5 := by unfold tileB; exact bytesG_len _
end Go.Proofs.Ytcbfnbfhlofkiaa
namespace Go.Proofs.Ytcbfnbfhlofkiaa
set_option maxRecDepth 4000
set_option linter.unusedVariables false
set_option linter.unusedSimpArgs false
open Go.RowKit
attribute [local irreducible] runG bytesG posG tileB tilesB padT rdP rdN mayG
def mayD (acc : List C4) (n : Int) : Bool := decide (1 ≤ n) && decide (n ≤ 64 - (acc.length : Int))
def rdQ (B : List Int) : Nat → List C4 → Nat → Option (List C4 × Nat)
  | 0, acc, p => if acc.length = 64 then some (acc, p) else none
  | f + 1, acc, p => if acc.length = 64 then some (acc, p) else if p + 5 ≤ B.length ∧ mayD acc (bAt B p) = true then rdQ B f (acc ++ List.replicate (bAt B p).toNat (runAt B p).2) (p + 5) else none
theorem rdQ_done {B : List Int} {acc : List C4} (h : acc.length = 64) : ∀ (f p : Nat), rdQ B f acc p = some (acc, p)
  | 0, p => by rw [rdQ, if_pos h]
  | f + 1, p => by rw [rdQ, if_pos h]
theorem rdQ_of {B : List Int} : ∀ {f : Nat} {acc l : List C4} {p q : Nat}, acc.length < 64 → rdP B f acc p = some (l, q) → rdQ B f acc p = some (l, q)
  | 0, _, _, _, _, _, h => by rw [rdP] at h; cases h
  | f + 1, acc, l, p, q, ha, h => by
    obtain ⟨h5, hm, h1, h2⟩ := rdP_some h
    have hg : 1 ≤ bAt B p ∧ bAt B p ≤ 64 - (acc.length : Int) := (mayG_iff.1 hm).1
    rw [rdQ, if_neg (by omega), if_pos ⟨h5, by unfold mayD; simp; omega⟩]
    by_cases h6 : acc.length + (bAt B p).toNat = 64
    · obtain ⟨rfl, rfl⟩ := h1 h6
      exact rdQ_done (by rw [List.length_append, List.length_replicate]; exact h6) _ _
    · exact rdQ_of (by rw [List.length_append, List.length_replicate]; omega) (h2 h6)
theorem rdQ_go {B : List Int} {f : Nat} {acc : List C4} {p : Nat} {r : Option (List C4 × Nat)} (ha : acc.length < 64) (hf : 64 ≤ f + acc.length) (hd : p + 5 ≤ B.length ∧ mayD acc (bAt B p) = true) (h : rdQ B f acc p = r) : (1 ≤ bAt B p ∧ bAt B p ≤ 64 - (acc.length : Int)) ∧ rdQ B (f - 1) (acc ++ List.replicate (bAt B p).toNat (runAt B p).2) (p + 5) = r := by
  cases f with
  | zero => omega
  | succ f =>
    rw [rdQ, if_neg (by omega), if_pos hd] at h
    refine ⟨?_, h⟩
    have := hd.2
    unfold mayD at this
    simp at this
    exact this
theorem rdQ_stop {B : List Int} {f : Nat} {acc : List C4} {p : Nat} (ha : acc.length < 64) (hd : ¬ (p + 5 ≤ B.length ∧ mayD acc (bAt B p) = true)) : rdQ B f acc p = none := by
  cases f with
  | zero => rw [rdQ, if_neg (by omega)]
  | succ f => rw [rdQ, if_neg (by omega), if_neg hd]
theorem docC {B : List Int} (hi : isB B) {acc : List C4} {p : Nat} : ((decide ((B.length : Int) < (p : Int) + 5) || (B.getD p 0 == 0)) || decide ((64 : Int) < (acc.length : Int) + B.getD p 0)) = !(decide (p + 5 ≤ B.length ∧ mayD acc (bAt B p) = true)) := by
  have h := bAt_in hi p
  have e : bAt B p = B.getD p 0 := rfl
  rw [e] at h ⊢
  generalize B.getD p 0 = z at h ⊢
  unfold mayD
  rw [Bool.eq_iff_iff]
  simp
  omega
theorem doc_y {B : List Int} {l : List C4} {q : Nat} (hl : l.length = 64) (h1 : (tileB (padT l)).length = q) (h2 : B.take (tileB (padT l)).length = tileB (padT l)) : rdN B 0 = some (l, q) := by
  have hB : B = tileB (padT l) ++ B.drop (tileB (padT l)).length := by
    have h3 : B.take (tileB (padT l)).length ++ B.drop (tileB (padT l)).length = B := List.take_append_drop _ _
    rw [h2] at h3
    exact h3.symm
  rw [hB, rdN_tile, ← h1, padT_full hl]
theorem rdQ_len {B : List Int} : ∀ {f : Nat} {acc l : List C4} {p q : Nat}, rdQ B f acc p = some (l, q) → l.length = 64
  | 0, acc, l, p, q, h => by
    rw [rdQ] at h
    split at h
    · rename_i h1; cases h; exact h1
    · cases h
  | f + 1, acc, l, p, q, h => by
    rw [rdQ] at h
    split at h
    · rename_i h1; cases h; exact h1
    · split at h
      · exact rdQ_len h
      · cases h
set_option maxRecDepth 4000 in
set_option maxHeartbeats 1000000 in
theorem begins_d (b w : List Int) : DFun Try.prog 35 [.slf 1 (b).length ((b).flatMap u8V), .slf 1 (w).length ((w).flatMap u8V)] [] (.val (.bool (decide (b.take w.length = w)))) [] := by
  refine dcalls_go (N := 27) 0 (by kernel_rfl) Try.func35 rfl rfl rfl (by simp only [fr0, Nat.zero_add, Nat.reduceAdd]; exact rfl) rfl fun s0 hs0 => ?_
  refine dwp_len (t := 0) rfl fun hl0 hL0 => ?_
  refine dwp_len (t := 1) rfl fun hl1 hL1 => ?_
  refine zaf ?_
  refine zad ?_
  refine zab rfl rfl rfl (zac (.inr rfl) (ev1 rfl)) ?_
  refine zae ?_
  refine zaf ?_
  refine zaf ?_
  refine zad ?_
  refine zab rfl rfl rfl (zac (.inl rfl) (ev1 rfl)) ?_
  refine zab rfl rfl rfl (op_len rfl sl23 (ev1 rfl)) ?_
  refine zab rfl rfl rfl (zac (.inl rfl) (ev1 rfl)) ?_
  refine zae ?_
  refine dwp_block ?_
  refine dwp_loopS ⟨hs0, rfl⟩ (α := Nat) (fun k => [(9, .val (.int .i64 (k : Int)))]) [(0, _), (7, _), (8, _)] (fun k => []) [] (fun k => k ≤ w.length ∧ k ≤ b.length ∧ b.take k = w.take k) (fun k => w.length - k) 0 [] (⟨Nat.zero_le _, Nat.zero_le _, rfl⟩) rfl ⟨rfl, rfl, rfl, trivial⟩ ⟨rfl, trivial⟩ trivial ?_
  intro k hx
  simp only [upd, za, zaa, List.cons_append, List.nil_append]
  obtain ⟨hk0, hkb, he⟩ := hx
  refine zaf ?_
  refine zad ?_
  refine zab rfl rfl rfl (op_lss rfl (ev1 rfl) (ev1 rfl)) ?_
  refine zae ?_
  refine zaf ?_
  refine dwp_cond rfl (fun c1 => ?_) (fun c1 => ?_)
  · try simp only [yg, ya, beq_iff_eq, bne_iff_ne, yb, yc, yf, ye, yh, yi, yd, ne_eq, yj, Int.not_lt, Int.not_le] at c1
    refine dwp_skip ?_
    refine zaf ?_
    refine dwp_block ?_
    refine zaf ?_
    refine zad ?_
    refine zab rfl rfl rfl (zac (.inl rfl) (ev1 rfl)) ?_
    refine zab rfl rfl rfl (op_ixsr (j := k) rfl sl23 (ev1 rfl) (ev1 rfl) (fun _ => rfl) (by decide) (by omega) (by omega)) ?_
    refine zab rfl rfl rfl (op_ldod rfl tb5 (ev1 rfl) rfl) ?_
    refine zab rfl rfl rfl (zac (.inr rfl) (ev1 rfl)) ?_
    refine zab rfl rfl rfl (zac (.inr rfl) (ev1 rfl)) ?_
    refine zae ?_
    refine zaf ?_
    refine zad ?_
    refine zab rfl rfl rfl (zac (.inl rfl) (ev1 rfl)) ?_
    refine zab rfl rfl rfl (zac (.inl rfl) (ev1 rfl)) ?_
    refine zab rfl rfl rfl (op_len rfl sl23 (ev1 rfl)) ?_
    refine zab rfl rfl rfl (op_geq rfl (ev1 rfl) (ev1 rfl)) ?_
    refine zab rfl rfl rfl (zac (.inl rfl) (ev1 rfl)) ?_
    refine zai (gd_f rfl rfl rfl) rfl rfl rfl (zac (.inl rfl) (ev1 rfl)) ?_
    refine zai (gd_f rfl rfl rfl) rfl rfl rfl (zac (.inl rfl) (ev1 rfl)) ?_
    refine zai (gd_f rfl rfl rfl) rfl rfl rfl (op_ixsg (j := k) ((0 : Int)) rfl sl23 (ev2 rfl) (ev2 rfl) (fun _ => rfl) (by decide) (fun hp => by first | omega | (simp at hp; omega)) (fun hp => by first | omega | (simp at hp; omega))) ?_
    refine zai (gd_f rfl rfl rfl) rfl rfl rfl (op_ldod rfl tb5 (ev2 rfl) rfl) ?_
    refine zai (gd_f rfl rfl rfl) rfl rfl rfl (zac (.inl rfl) (ev1 rfl)) ?_
    refine zai (gd_f rfl rfl rfl) rfl rfl rfl (op_neq rfl (ev2 rfl) (ev2 rfl)) ?_
    refine zab rfl rfl rfl (op_or rfl (ev1 rfl) (ev3 rfl id)) ?_
    refine zae ?_
    refine dwp_cond rfl (fun c2 => ?_) (fun c2 => ?_)
    · have c3 : ¬ (k < b.length ∧ b[k]? = w[k]?) := by
        rintro ⟨g1, g2⟩
        rw [List.getElem?_eq_getElem (by omega), List.getElem?_eq_getElem (by omega)] at g2
        have g3 := Option.some.inj g2
        have g4 : b.getD k 0 = w[k] := by rw [List.getD_eq_getElem?_getD, List.getElem?_eq_getElem g1]; exact g3
        rw [g4] at c2
        simp at c2
        omega
      refine zaf ?_
      refine zad ?_
      refine zab rfl rfl rfl (zac (.inr rfl) (ev1 rfl)) ?_
      refine zae ?_
      refine dwp_ret ?_
      refine kend0 (rs1 rfl (rv_t rfl)) rfl ?_
      have hne : ¬ b.take w.length = w := fun e => by
        have h1 : (b.take w.length)[k]? = w[k]? := congrArg (fun l => l[k]?) e
        have hlt : k < w.length := by omega
        rw [List.getElem?_take_of_lt hlt] at h1
        refine c3 ⟨?_, h1⟩
        rcases Nat.lt_or_ge k b.length with g | g
        · exact g
        · rw [List.getElem?_eq_none g, List.getElem?_eq_getElem hlt] at h1; cases h1
      rw [decide_eq_false hne]
    · have hkl : k < b.length := by simp at c2; omega
      have c3 : b[k] = w[k] := by
        simp [hkl] at c2
        exact c2
      refine dwp_skip ?_
      refine zad ?_
      refine zab rfl rfl rfl (op_add' rfl (ev1 rfl) (ev1 rfl) (fun _ => IntWalk.i64_in _ (by omega))) ?_
      refine zab rfl rfl rfl (zac (.inl rfl) (ev1 rfl)) ?_
      refine zae ?_
      refine ⟨k + 1, [], ⟨by omega, by omega, by rw [List.take_succ_eq_append_getElem (by omega), List.take_succ_eq_append_getElem (by omega), he, c3]⟩, by simp only []; omega, rfl, ⟨rfl, rfl, rfl, rfl, trivial⟩, trivial⟩
  · try simp only [yg, ya, beq_iff_eq, bne_iff_ne, yb, yc, yf, ye, yh, yi, yd, ne_eq, yj, Int.not_lt, Int.not_le] at c1
    refine dwp_exit ?_
    refine zaf ?_
    refine zad ?_
    refine zab rfl rfl rfl (zac (.inr rfl) (ev1 rfl)) ?_
    refine zae ?_
    refine dwp_ret ?_
    refine kend0 (rs1 rfl (rv_t rfl)) rfl ?_
    obtain rfl : k = w.length := by omega
    rw [List.take_length] at he
    rw [decide_eq_true he]
set_option maxRecDepth 4000 in
set_option maxHeartbeats 1000000 in
theorem rdd_0 (B : List Int) (hB : B.length ≤ 4000000000000000000) (hi : isB B) (h0 : rdQ B 64 [] 0 = none) : DFun Try.prog 15 [.slf 1 (B).length ((B).flatMap u8V)] [] (.tup [.val (.agg (tc zT).toArray), .val (.int .i64 0)]) [] := by
  refine dcalls_go (N := 83) 0 (by kernel_rfl) Try.func15 rfl rfl rfl (by simp only [fr0, Nat.zero_add, Nat.reduceAdd]; exact rfl) rfl fun s0 hs0 => ?_
  refine dwp_len (t := 0) rfl fun hl0 hL0 => ?_
  refine zaf ?_
  refine zah 1 (by simp only [holes, List.cons_append, List.nil_append]; exact rfl) ?_
  refine zad ?_
  refine walk_w rfl rfl rfl (op_alloc 0 rfl zr29 rfl) (by simp only [upd, za, zaa]; exact rfl) ?_
  refine zab rfl rfl rfl (zac (.inr rfl) (ev1 rfl)) ?_
  refine zae ?_
  refine zaf ?_
  refine zah 1 (by simp only [holes, List.cons_append, List.nil_append]; exact rfl) ?_
  refine zad ?_
  refine walk_w rfl rfl rfl (op_alloc 1 rfl zr29 rfl) (by simp only [upd, za, zaa]; exact rfl) ?_
  refine zae ?_
  refine zaf ?_
  refine zad ?_
  refine zab rfl rfl rfl (zac (.inr rfl) (ev1 rfl)) ?_
  refine zab rfl rfl rfl (zac (.inr rfl) (ev1 rfl)) ?_
  refine zae ?_
  refine zaf ?_
  refine dwp_block ?_
  refine dwp_loopS ⟨hs0, rfl⟩ (α := Nat × List C4 × Nat) (fun x => [(5, .val (.int .i64 (x.2.2 : Int))), (6, .val (.int .i64 (x.2.1.length : Int)))]) [(0, _), (2, _), (4, _)] (fun x => [(1, .flat 29 (tc (padT x.2.1)))]) [_, .hole] (fun x => x.2.1.length ≤ 64 ∧ x.2.2 ≤ B.length ∧ 64 ≤ x.1 + x.2.1.length ∧ rdQ B x.1 x.2.1 x.2.2 = none) (fun x => 64 - x.2.1.length) (64, [], 0) [0, 1] (⟨Nat.zero_le _, Nat.zero_le _, Nat.le_refl 64, h0⟩) rfl ⟨rfl, rfl, rfl, trivial⟩ ⟨rfl, rfl, trivial⟩ ⟨rfl, by rw [padT_nil]; rfl, trivial⟩ ?_
  intro x hx
  simp only [upd, za, zaa, List.cons_append, List.nil_append]
  obtain ⟨f, acc, p⟩ := x
  obtain ⟨ha, hpl, hf, hrd⟩ := hx
  dsimp only at ha hpl hf hrd ⊢
  refine zaf ?_
  refine zaf ?_
  refine zad ?_
  refine zab rfl rfl rfl (zac (.inl rfl) (ev1 rfl)) ?_
  refine zab rfl rfl rfl (op_lss rfl (ev1 rfl) (ev1 rfl)) ?_
  refine zae ?_
  refine dwp_cond rfl (fun c1 => ?_) (fun c1 => ?_)
  · try simp only [yg, ya, beq_iff_eq, bne_iff_ne, yb, yc, yf, ye, yh, yi, yd, ne_eq, yj, Int.not_lt, Int.not_le] at c1
    have ha2 : acc.length < 64 := by omega
    refine dwp_skip ?_
    refine dwp_block ?_
    refine zaf ?_
    refine zaf ?_
    by_cases hd : p + 5 ≤ B.length ∧ mayD acc (bAt B p) = true
    · obtain ⟨hnb, hgo⟩ := rdQ_go ha2 hf hd hrd
      have hd1 := hd.1
      refine zad ?_
      refine zab rfl rfl rfl (zac (.inl rfl) (ev1 rfl)) ?_
      refine zab rfl rfl rfl (op_add' rfl (ev1 rfl) (ev1 rfl) (fun _ => IntWalk.i64_in _ (by omega))) ?_
      refine zab rfl rfl rfl (zac (.inl rfl) (ev1 rfl)) ?_
      refine zab rfl rfl rfl (op_len rfl sl23 (ev1 rfl)) ?_
      refine zab rfl rfl rfl (op_gtr rfl (ev1 rfl) (ev1 rfl)) ?_
      refine zab rfl rfl rfl (zac (.inl rfl) (ev1 rfl)) ?_
      refine zai (gd_f rfl rfl rfl) rfl rfl rfl (zac (.inl rfl) (ev1 rfl)) ?_
      refine zai (gd_f rfl rfl rfl) rfl rfl rfl (zac (.inl rfl) (ev1 rfl)) ?_
      refine zai (gd_f rfl rfl rfl) rfl rfl rfl (op_ixsg (j := p) ((0 : Int)) rfl sl23 (ev2 rfl) (ev2 rfl) (fun _ => rfl) (by decide) (fun hp => by first | omega | (simp at hp; omega)) (fun hp => by first | omega | (simp at hp; omega))) ?_
      refine zai (gd_f rfl rfl rfl) rfl rfl rfl (op_ldod rfl tb5 (ev2 rfl) rfl) ?_
      refine zai (gd_f rfl rfl rfl) rfl rfl rfl (op_eql rfl (ev2 rfl) (ev1 rfl)) ?_
      refine zab rfl rfl rfl (op_or rfl (ev1 rfl) (ev3 rfl id)) ?_
      refine zab rfl rfl rfl (zac (.inl rfl) (ev1 rfl)) ?_
      refine zai (gd_f rfl rfl rfl) rfl rfl rfl (zac (.inl rfl) (ev1 rfl)) ?_
      refine zai (gd_f rfl rfl rfl) rfl rfl rfl (zac (.inl rfl) (ev1 rfl)) ?_
      refine zai (gd_f rfl rfl rfl) rfl rfl rfl (zac (.inl rfl) (ev1 rfl)) ?_
      refine zai (gd_f rfl rfl rfl) rfl rfl rfl (op_ixsg (j := p) ((0 : Int)) rfl sl23 (ev2 rfl) (ev2 rfl) (fun _ => rfl) (by decide) (fun hp => by first | omega | (simp at hp; omega)) (fun hp => by first | omega | (simp at hp; omega))) ?_
      refine zai (gd_f rfl rfl rfl) rfl rfl rfl (op_ldod rfl tb5 (ev2 rfl) rfl) ?_
      refine zai (gd_f rfl rfl rfl) rfl rfl rfl (op_conv' ty5 kn3 rfl (ev2 rfl) (fun _ => by have h9 := bAt_in hi p; unfold bAt at h9; exact IntWalk.i64_in _ (by omega))) ?_
      refine zai (gd_f rfl rfl rfl) rfl rfl rfl (op_add' rfl (ev2 rfl) (ev2 rfl) (fun _ => by have h9 := bAt_in hi p; unfold bAt at h9; exact IntWalk.i64_in _ (by omega))) ?_
      refine zai (gd_f rfl rfl rfl) rfl rfl rfl (op_gtr rfl (ev2 rfl) (ev1 rfl)) ?_
      refine zab rfl rfl rfl (op_or rfl (ev1 rfl) (ev3 rfl id)) ?_
      refine zae ?_
      refine dwp_if_f rfl ((docC hi).trans (by rw [decide_eq_true hd]; rfl)) ?_
      refine dwp_skip ?_
      refine zaf ?_
      refine zaf ?_
      refine zad ?_
      refine zab rfl rfl rfl (zac (.inl rfl) (ev1 rfl)) ?_
      refine zab rfl rfl rfl (zac (.inl rfl) (ev1 rfl)) ?_
      refine zab rfl rfl rfl (op_ixsr (j := p) rfl sl23 (ev1 rfl) (ev1 rfl) (fun _ => rfl) (by decide) (by omega) (by omega)) ?_
      refine zab rfl rfl rfl ((op_ldod rfl tb5 (ev1 rfl) rfl).wk (Wk.of_eq (d' := .val (.int .u8 (bAt B (p)))) (by rw [bAt_eq (by omega)]))) ?_
      refine zab rfl rfl rfl (op_conv' ty5 kn3 rfl (ev1 rfl) (fun _ => IntWalk.i64_in _ (by omega))) ?_
      refine zab rfl rfl rfl (zac (.inl rfl) (ev1 rfl)) ?_
      refine zae ?_
      refine dwp_block ?_
      refine dwp_loopS ⟨hs0, rfl⟩ (α := Nat) (fun k => [(6, .val (.int .i64 (acc.length + k : Int))), (38, .val (.int .i64 (k : Int)))]) [(0, _), (2, _), (4, _), (5, _), (37, _)] (fun k => [(1, .flat 29 (tc (padT (acc ++ List.replicate k (runAt B p).2))))]) [_, .hole] (fun k => k ≤ (bAt B p).toNat) (fun k => (bAt B p).toNat - k) 0 [0, 1] (Nat.zero_le _) rfl ⟨rfl, rfl, rfl, rfl, rfl, trivial⟩ ⟨rfl, rfl, trivial⟩ ⟨rfl, by rw [List.replicate_zero, List.append_nil]; rfl, trivial⟩ ?_
      intro k hx
      simp only [upd, za, zaa, List.cons_append, List.nil_append]
      have hk0 := hx
      refine zaf ?_
      refine zad ?_
      refine zab rfl rfl rfl (op_lss rfl (ev1 rfl) (ev1 rfl)) ?_
      refine zae ?_
      refine zaf ?_
      refine dwp_cond rfl (fun c3 => ?_) (fun c3 => ?_)
      · try simp only [yg, ya, beq_iff_eq, bne_iff_ne, yb, yc, yf, ye, yh, yi, yd, ne_eq, yj, Int.not_lt, Int.not_le] at c3
        refine dwp_skip ?_
        refine zaf ?_
        refine dwp_block ?_
        refine zaf ?_
        refine dwp_draw [([], []), ([], []), ([], []), ([], []), ([], []), ([], []), ([], []), ([], []), ([], []), ([], []), ([], []), ([], []), ([], []), ([], []), ([], []), ([], []), ([], []), ([], []), ([], []), ([], []), ([], []), ([], []), ([], []), ([1], [1])] mixed (by kernel_rfl) ?_
        refine zag rfl rfl (zac (.inl rfl) (ev1 rfl)) ?_
        refine zag rfl rfl (zac (.inl rfl) (ev1 rfl)) ?_
        refine zag rfl rfl (zac (.inl rfl) (ev1 rfl)) ?_
        refine zag rfl rfl (op_add' rfl (ev1 rfl) (ev1 rfl) (fun _ => IntWalk.i64_in _ (by omega))) ?_
        refine zag rfl rfl (op_ixsr (j := p + 1) rfl sl23 (ev1 rfl) (ev1 rfl) (fun _ => rfl) (by decide) (by omega) (by omega)) ?_
        refine zag rfl rfl ((op_ldod rfl tb5 (ev1 rfl) rfl).wk (Wk.of_eq (d' := .val (.int .u8 (bAt B (p + 1)))) (by rw [bAt_eq (by omega)]))) ?_
        refine zag rfl rfl (zac (.inl rfl) (ev1 rfl)) ?_
        refine zag rfl rfl (zac (.inl rfl) (ev1 rfl)) ?_
        refine zag rfl rfl (op_add' rfl (ev1 rfl) (ev1 rfl) (fun _ => IntWalk.i64_in _ (by omega))) ?_
        refine zag rfl rfl (op_ixsr (j := p + 2) rfl sl23 (ev1 rfl) (ev1 rfl) (fun _ => rfl) (by decide) (by omega) (by omega)) ?_
        refine zag rfl rfl ((op_ldod rfl tb5 (ev1 rfl) rfl).wk (Wk.of_eq (d' := .val (.int .u8 (bAt B (p + 2)))) (by rw [bAt_eq (by omega)]))) ?_
        refine zag rfl rfl (zac (.inl rfl) (ev1 rfl)) ?_
        refine zag rfl rfl (zac (.inl rfl) (ev1 rfl)) ?_
        refine zag rfl rfl (op_add' rfl (ev1 rfl) (ev1 rfl) (fun _ => IntWalk.i64_in _ (by omega))) ?_
        refine zag rfl rfl (op_ixsr (j := p + 3) rfl sl23 (ev1 rfl) (ev1 rfl) (fun _ => rfl) (by decide) (by omega) (by omega)) ?_
        refine zag rfl rfl ((op_ldod rfl tb5 (ev1 rfl) rfl).wk (Wk.of_eq (d' := .val (.int .u8 (bAt B (p + 3)))) (by rw [bAt_eq (by omega)]))) ?_
        refine zag rfl rfl (zac (.inl rfl) (ev1 rfl)) ?_
        refine zag rfl rfl (zac (.inl rfl) (ev1 rfl)) ?_
        refine zag rfl rfl (op_add' rfl (ev1 rfl) (ev1 rfl) (fun _ => IntWalk.i64_in _ (by omega))) ?_
        refine zag rfl rfl (op_ixsr (j := p + 4) rfl sl23 (ev1 rfl) (ev1 rfl) (fun _ => rfl) (by decide) (by omega) (by omega)) ?_
        refine zag rfl rfl ((op_ldod rfl tb5 (ev1 rfl) rfl).wk (Wk.of_eq (d' := .val (.int .u8 (bAt B (p + 4)))) (by rw [bAt_eq (by omega)]))) ?_
        refine zag rfl rfl (op_build (ps := [(0, .tmp 45), (1, .tmp 50), (2, .tmp 55), (3, .tmp 60)]) rfl fl27 zr27 (vc (ev1 rfl) (vc (ev1 rfl) (vc (ev1 rfl) (vc (ev1 rfl) vn)))) rfl rfl) ?_
        refine zag rfl rfl (op_ixfr (j := acc.length + k) rfl ar29 (ev1 rfl) (ev1 rfl) (fun _ => by omega) (fun _ => by omega)) ?_
        refine lex_s rfl rfl (op_stfr (q := (runAt B p).2) rfl tb27 (ev1 rfl) (ev1 rfl) rfl rfl rfl (fun _ => rfl) (fun _ => by rw [TL.h]; omega)) rfl (by simp only [upd, za, zaa]; exact rfl) ?_
        refine lex_nil ?_
        refine zad ?_
        refine zab rfl rfl rfl (zac (.inl rfl) (ev1 rfl)) ?_
        refine zab rfl rfl rfl (op_add' rfl (ev1 rfl) (ev1 rfl) (fun _ => IntWalk.i64_in _ (by omega))) ?_
        refine zab rfl rfl rfl (zac (.inr rfl) (ev1 rfl)) ?_
        refine zae ?_
        refine zad ?_
        refine zab rfl rfl rfl (op_add' rfl (ev1 rfl) (ev1 rfl) (fun _ => IntWalk.i64_in _ (by omega))) ?_
        refine zab rfl rfl rfl (zac (.inl rfl) (ev1 rfl)) ?_
        refine zae ?_
        refine ⟨k + 1, [0, 1], by omega, by simp only []; omega, rfl, ⟨rfl, rfl, rfl, rfl, rfl, rfl, rfl, trivial⟩, ⟨rfl, by rw [tc_set, padT_rep (by omega)]; rfl, trivial⟩⟩
      · try simp only [yg, ya, beq_iff_eq, bne_iff_ne, yb, yc, yf, ye, yh, yi, yd, ne_eq, yj, Int.not_lt, Int.not_le] at c3
        refine dwp_exit ?_
        refine zad ?_
        refine zab rfl rfl rfl (zac (.inl rfl) (ev1 rfl)) ?_
        refine zab rfl rfl rfl (op_add' rfl (ev1 rfl) (ev1 rfl) (fun _ => IntWalk.i64_in _ (by omega))) ?_
        refine zab rfl rfl rfl (zac (.inr rfl) (ev1 rfl)) ?_
        refine zae ?_
        obtain rfl : k = (bAt B p).toNat := by omega
        refine ⟨(f - 1, acc ++ List.replicate (bAt B p).toNat (runAt B p).2, p + 5), [0, 1], ⟨by rw [List.length_append, List.length_replicate]; omega, hd.1, by rw [List.length_append, List.length_replicate]; omega, hgo⟩, by simp only [List.length_append, List.length_replicate]; omega, rfl, ⟨rfl, by rw [List.length_append, List.length_replicate]; rfl, rfl, rfl, rfl, trivial⟩, ⟨rfl, rfl, trivial⟩⟩
    · refine zad ?_
      refine zab rfl rfl rfl (zac (.inl rfl) (ev1 rfl)) ?_
      refine zab rfl rfl rfl (op_add' rfl (ev1 rfl) (ev1 rfl) (fun _ => IntWalk.i64_in _ (by omega))) ?_
      refine zab rfl rfl rfl (zac (.inl rfl) (ev1 rfl)) ?_
      refine zab rfl rfl rfl (op_len rfl sl23 (ev1 rfl)) ?_
      refine zab rfl rfl rfl (op_gtr rfl (ev1 rfl) (ev1 rfl)) ?_
      refine zab rfl rfl rfl (zac (.inl rfl) (ev1 rfl)) ?_
      refine zai (gd_f rfl rfl rfl) rfl rfl rfl (zac (.inl rfl) (ev1 rfl)) ?_
      refine zai (gd_f rfl rfl rfl) rfl rfl rfl (zac (.inl rfl) (ev1 rfl)) ?_
      refine zai (gd_f rfl rfl rfl) rfl rfl rfl (op_ixsg (j := p) ((0 : Int)) rfl sl23 (ev2 rfl) (ev2 rfl) (fun _ => rfl) (by decide) (fun hp => by first | omega | (simp at hp; omega)) (fun hp => by first | omega | (simp at hp; omega))) ?_
      refine zai (gd_f rfl rfl rfl) rfl rfl rfl (op_ldod rfl tb5 (ev2 rfl) rfl) ?_
      refine zai (gd_f rfl rfl rfl) rfl rfl rfl (op_eql rfl (ev2 rfl) (ev1 rfl)) ?_
      refine zab rfl rfl rfl (op_or rfl (ev1 rfl) (ev3 rfl id)) ?_
      refine zab rfl rfl rfl (zac (.inl rfl) (ev1 rfl)) ?_
      refine zai (gd_f rfl rfl rfl) rfl rfl rfl (zac (.inl rfl) (ev1 rfl)) ?_
      refine zai (gd_f rfl rfl rfl) rfl rfl rfl (zac (.inl rfl) (ev1 rfl)) ?_
      refine zai (gd_f rfl rfl rfl) rfl rfl rfl (zac (.inl rfl) (ev1 rfl)) ?_
      refine zai (gd_f rfl rfl rfl) rfl rfl rfl (op_ixsg (j := p) ((0 : Int)) rfl sl23 (ev2 rfl) (ev2 rfl) (fun _ => rfl) (by decide) (fun hp => by first | omega | (simp at hp; omega)) (fun hp => by first | omega | (simp at hp; omega))) ?_
      refine zai (gd_f rfl rfl rfl) rfl rfl rfl (op_ldod rfl tb5 (ev2 rfl) rfl) ?_
      refine zai (gd_f rfl rfl rfl) rfl rfl rfl (op_conv' ty5 kn3 rfl (ev2 rfl) (fun _ => by have h9 := bAt_in hi p; unfold bAt at h9; exact IntWalk.i64_in _ (by omega))) ?_
      refine zai (gd_f rfl rfl rfl) rfl rfl rfl (op_add' rfl (ev2 rfl) (ev2 rfl) (fun _ => by have h9 := bAt_in hi p; unfold bAt at h9; exact IntWalk.i64_in _ (by omega))) ?_
      refine zai (gd_f rfl rfl rfl) rfl rfl rfl (op_gtr rfl (ev2 rfl) (ev1 rfl)) ?_
      refine zab rfl rfl rfl (op_or rfl (ev1 rfl) (ev3 rfl id)) ?_
      refine zae ?_
      refine dwp_if_t rfl ((docC hi).trans (by rw [decide_eq_false hd]; rfl)) ?_
      refine zaf ?_
      refine zad ?_
      refine zab rfl rfl rfl (op_build0a rfl ar29 zr29) ?_
      refine walk_s rfl rfl (op_stwa rfl tb29 (ev1 rfl) (ev1 rfl) rfl (tc_len _) (tc_oc _) ((tc_len _).trans (tc_len _).symm)) (by simp only [upd, za, zaa]; exact rfl) ?_
      refine zab rfl rfl rfl (zac (.inr rfl) (ev1 rfl)) ?_
      refine zae ?_
      refine dwp_ret ?_
      refine kend0 (rs2 rfl (rv_w tb29 rfl rfl (tc_len _)) (rv_t rfl)) rfl ?_
      rfl
  · have c2 : ¬ ((acc.length : Int) < 64) := by simpa using c1
    rw [rdQ_done (by omega)] at hrd
    cases hrd
set_option maxRecDepth 4000 in
set_option maxHeartbeats 1000000 in
theorem rdd_1 (B : List Int) (hB : B.length ≤ 4000000000000000000) (hi : isB B) (l : List C4) (q : Nat) (h0 : rdQ B 64 [] 0 = some (l, q)) (hc : ((tileB (padT l)).length = q ∧ B.take (tileB (padT l)).length = tileB (padT l))) : DFun Try.prog 15 [.slf 1 (B).length ((B).flatMap u8V)] [] (.tup [.val (.agg (tc (padT l)).toArray), .val (.int .i64 (q : Nat))]) [] := by
  refine dcalls_go (N := 83) 0 (by kernel_rfl) Try.func15 rfl rfl rfl (by simp only [fr0, Nat.zero_add, Nat.reduceAdd]; exact rfl) rfl fun s0 hs0 => ?_
  refine dwp_len (t := 0) rfl fun hl0 hL0 => ?_
  refine zaf ?_
  refine zah 1 (by simp only [holes, List.cons_append, List.nil_append]; exact rfl) ?_
  refine zad ?_
  refine walk_w rfl rfl rfl (op_alloc 0 rfl zr29 rfl) (by simp only [upd, za, zaa]; exact rfl) ?_
  refine zab rfl rfl rfl (zac (.inr rfl) (ev1 rfl)) ?_
  refine zae ?_
  refine zaf ?_
  refine zah 1 (by simp only [holes, List.cons_append, List.nil_append]; exact rfl) ?_
  refine zad ?_
  refine walk_w rfl rfl rfl (op_alloc 1 rfl zr29 rfl) (by simp only [upd, za, zaa]; exact rfl) ?_
  refine zae ?_
  refine zaf ?_
  refine zad ?_
  refine zab rfl rfl rfl (zac (.inr rfl) (ev1 rfl)) ?_
  refine zab rfl rfl rfl (zac (.inr rfl) (ev1 rfl)) ?_
  refine zae ?_
  refine zaf ?_
  refine dwp_block ?_
  refine dwp_loopS ⟨hs0, rfl⟩ (α := Nat × List C4 × Nat) (fun x => [(5, .val (.int .i64 (x.2.2 : Int))), (6, .val (.int .i64 (x.2.1.length : Int)))]) [(0, _), (2, _), (4, _)] (fun x => [(1, .flat 29 (tc (padT x.2.1)))]) [_, .hole] (fun x => x.2.1.length ≤ 64 ∧ x.2.2 ≤ B.length ∧ 64 ≤ x.1 + x.2.1.length ∧ rdQ B x.1 x.2.1 x.2.2 = some (l, q)) (fun x => 64 - x.2.1.length) (64, [], 0) [0, 1] (⟨Nat.zero_le _, Nat.zero_le _, Nat.le_refl 64, h0⟩) rfl ⟨rfl, rfl, rfl, trivial⟩ ⟨rfl, rfl, trivial⟩ ⟨rfl, by rw [padT_nil]; rfl, trivial⟩ ?_
  intro x hx
  simp only [upd, za, zaa, List.cons_append, List.nil_append]
  obtain ⟨f, acc, p⟩ := x
  obtain ⟨ha, hpl, hf, hrd⟩ := hx
  dsimp only at ha hpl hf hrd ⊢
  refine zaf ?_
  refine zaf ?_
  refine zad ?_
  refine zab rfl rfl rfl (zac (.inl rfl) (ev1 rfl)) ?_
  refine zab rfl rfl rfl (op_lss rfl (ev1 rfl) (ev1 rfl)) ?_
  refine zae ?_
  refine dwp_cond rfl (fun c1 => ?_) (fun c1 => ?_)
  · try simp only [yg, ya, beq_iff_eq, bne_iff_ne, yb, yc, yf, ye, yh, yi, yd, ne_eq, yj, Int.not_lt, Int.not_le] at c1
    have ha2 : acc.length < 64 := by omega
    refine dwp_skip ?_
    refine dwp_block ?_
    refine zaf ?_
    refine zaf ?_
    by_cases hd : p + 5 ≤ B.length ∧ mayD acc (bAt B p) = true
    · obtain ⟨hnb, hgo⟩ := rdQ_go ha2 hf hd hrd
      have hd1 := hd.1
      refine zad ?_
      refine zab rfl rfl rfl (zac (.inl rfl) (ev1 rfl)) ?_
      refine zab rfl rfl rfl (op_add' rfl (ev1 rfl) (ev1 rfl) (fun _ => IntWalk.i64_in _ (by omega))) ?_
      refine zab rfl rfl rfl (zac (.inl rfl) (ev1 rfl)) ?_
      refine zab rfl rfl rfl (op_len rfl sl23 (ev1 rfl)) ?_
      refine zab rfl rfl rfl (op_gtr rfl (ev1 rfl) (ev1 rfl)) ?_
      refine zab rfl rfl rfl (zac (.inl rfl) (ev1 rfl)) ?_
      refine zai (gd_f rfl rfl rfl) rfl rfl rfl (zac (.inl rfl) (ev1 rfl)) ?_
      refine zai (gd_f rfl rfl rfl) rfl rfl rfl (zac (.inl rfl) (ev1 rfl)) ?_
      refine zai (gd_f rfl rfl rfl) rfl rfl rfl (op_ixsg (j := p) ((0 : Int)) rfl sl23 (ev2 rfl) (ev2 rfl) (fun _ => rfl) (by decide) (fun hp => by first | omega | (simp at hp; omega)) (fun hp => by first | omega | (simp at hp; omega))) ?_
      refine zai (gd_f rfl rfl rfl) rfl rfl rfl (op_ldod rfl tb5 (ev2 rfl) rfl) ?_
      refine zai (gd_f rfl rfl rfl) rfl rfl rfl (op_eql rfl (ev2 rfl) (ev1 rfl)) ?_
      refine zab rfl rfl rfl (op_or rfl (ev1 rfl) (ev3 rfl id)) ?_
      refine zab rfl rfl rfl (zac (.inl rfl) (ev1 rfl)) ?_
      refine zai (gd_f rfl rfl rfl) rfl rfl rfl (zac (.inl rfl) (ev1 rfl)) ?_
      refine zai (gd_f rfl rfl rfl) rfl rfl rfl (zac (.inl rfl) (ev1 rfl)) ?_
      refine zai (gd_f rfl rfl rfl) rfl rfl rfl (zac (.inl rfl) (ev1 rfl)) ?_
      refine zai (gd_f rfl rfl rfl) rfl rfl rfl (op_ixsg (j := p) ((0 : Int)) rfl sl23 (ev2 rfl) (ev2 rfl) (fun _ => rfl) (by decide) (fun hp => by first | omega | (simp at hp; omega)) (fun hp => by first | omega | (simp at hp; omega))) ?_
      refine zai (gd_f rfl rfl rfl) rfl rfl rfl (op_ldod rfl tb5 (ev2 rfl) rfl) ?_
      refine zai (gd_f rfl rfl rfl) rfl rfl rfl (op_conv' ty5 kn3 rfl (ev2 rfl) (fun _ => by have h9 := bAt_in hi p; unfold bAt at h9; exact IntWalk.i64_in _ (by omega))) ?_
      refine zai (gd_f rfl rfl rfl) rfl rfl rfl (op_add' rfl (ev2 rfl) (ev2 rfl) (fun _ => by have h9 := bAt_in hi p; unfold bAt at h9; exact IntWalk.i64_in _ (by omega))) ?_
      refine zai (gd_f rfl rfl rfl) rfl rfl rfl (op_gtr rfl (ev2 rfl) (ev1 rfl)) ?_
      refine zab rfl rfl rfl (op_or rfl (ev1 rfl) (ev3 rfl id)) ?_
      refine zae ?_
      refine dwp_if_f rfl ((docC hi).trans (by rw [decide_eq_true hd]; rfl)) ?_
      refine dwp_skip ?_
      refine zaf ?_
      refine zaf ?_
      refine zad ?_
      refine zab rfl rfl rfl (zac (.inl rfl) (ev1 rfl)) ?_
      refine zab rfl rfl rfl (zac (.inl rfl) (ev1 rfl)) ?_
      refine zab rfl rfl rfl (op_ixsr (j := p) rfl sl23 (ev1 rfl) (ev1 rfl) (fun _ => rfl) (by decide) (by omega) (by omega)) ?_
      refine zab rfl rfl rfl ((op_ldod rfl tb5 (ev1 rfl) rfl).wk (Wk.of_eq (d' := .val (.int .u8 (bAt B (p)))) (by rw [bAt_eq (by omega)]))) ?_
      refine zab rfl rfl rfl (op_conv' ty5 kn3 rfl (ev1 rfl) (fun _ => IntWalk.i64_in _ (by omega))) ?_
      refine zab rfl rfl rfl (zac (.inl rfl) (ev1 rfl)) ?_
      refine zae ?_
      refine dwp_block ?_
      refine dwp_loopS ⟨hs0, rfl⟩ (α := Nat) (fun k => [(6, .val (.int .i64 (acc.length + k : Int))), (38, .val (.int .i64 (k : Int)))]) [(0, _), (2, _), (4, _), (5, _), (37, _)] (fun k => [(1, .flat 29 (tc (padT (acc ++ List.replicate k (runAt B p).2))))]) [_, .hole] (fun k => k ≤ (bAt B p).toNat) (fun k => (bAt B p).toNat - k) 0 [0, 1] (Nat.zero_le _) rfl ⟨rfl, rfl, rfl, rfl, rfl, trivial⟩ ⟨rfl, rfl, trivial⟩ ⟨rfl, by rw [List.replicate_zero, List.append_nil]; rfl, trivial⟩ ?_
      intro k hx
      simp only [upd, za, zaa, List.cons_append, List.nil_append]
      have hk0 := hx
      refine zaf ?_
      refine zad ?_
      refine zab rfl rfl rfl (op_lss rfl (ev1 rfl) (ev1 rfl)) ?_
      refine zae ?_
      refine zaf ?_
      refine dwp_cond rfl (fun c3 => ?_) (fun c3 => ?_)
      · try simp only [yg, ya, beq_iff_eq, bne_iff_ne, yb, yc, yf, ye, yh, yi, yd, ne_eq, yj, Int.not_lt, Int.not_le] at c3
        refine dwp_skip ?_
        refine zaf ?_
        refine dwp_block ?_
        refine zaf ?_
        refine dwp_draw [([], []), ([], []), ([], []), ([], []), ([], []), ([], []), ([], []), ([], []), ([], []), ([], []), ([], []), ([], []), ([], []), ([], []), ([], []), ([], []), ([], []), ([], []), ([], []), ([], []), ([], []), ([], []), ([], []), ([1], [1])] mixed (by kernel_rfl) ?_
        refine zag rfl rfl (zac (.inl rfl) (ev1 rfl)) ?_
        refine zag rfl rfl (zac (.inl rfl) (ev1 rfl)) ?_
        refine zag rfl rfl (zac (.inl rfl) (ev1 rfl)) ?_
        refine zag rfl rfl (op_add' rfl (ev1 rfl) (ev1 rfl) (fun _ => IntWalk.i64_in _ (by omega))) ?_
        refine zag rfl rfl (op_ixsr (j := p + 1) rfl sl23 (ev1 rfl) (ev1 rfl) (fun _ => rfl) (by decide) (by omega) (by omega)) ?_
        refine zag rfl rfl ((op_ldod rfl tb5 (ev1 rfl) rfl).wk (Wk.of_eq (d' := .val (.int .u8 (bAt B (p + 1)))) (by rw [bAt_eq (by omega)]))) ?_
        refine zag rfl rfl (zac (.inl rfl) (ev1 rfl)) ?_
        refine zag rfl rfl (zac (.inl rfl) (ev1 rfl)) ?_
        refine zag rfl rfl (op_add' rfl (ev1 rfl) (ev1 rfl) (fun _ => IntWalk.i64_in _ (by omega))) ?_
        refine zag rfl rfl (op_ixsr (j := p + 2) rfl sl23 (ev1 rfl) (ev1 rfl) (fun _ => rfl) (by decide) (by omega) (by omega)) ?_
        refine zag rfl rfl ((op_ldod rfl tb5 (ev1 rfl) rfl).wk (Wk.of_eq (d' := .val (.int .u8 (bAt B (p + 2)))) (by rw [bAt_eq (by omega)]))) ?_
        refine zag rfl rfl (zac (.inl rfl) (ev1 rfl)) ?_
        refine zag rfl rfl (zac (.inl rfl) (ev1 rfl)) ?_
        refine zag rfl rfl (op_add' rfl (ev1 rfl) (ev1 rfl) (fun _ => IntWalk.i64_in _ (by omega))) ?_
        refine zag rfl rfl (op_ixsr (j := p + 3) rfl sl23 (ev1 rfl) (ev1 rfl) (fun _ => rfl) (by decide) (by omega) (by omega)) ?_
        refine zag rfl rfl ((op_ldod rfl tb5 (ev1 rfl) rfl).wk (Wk.of_eq (d' := .val (.int .u8 (bAt B (p + 3)))) (by rw [bAt_eq (by omega)]))) ?_
        refine zag rfl rfl (zac (.inl rfl) (ev1 rfl)) ?_
        refine zag rfl rfl (zac (.inl rfl) (ev1 rfl)) ?_
        refine zag rfl rfl (op_add' rfl (ev1 rfl) (ev1 rfl) (fun _ => IntWalk.i64_in _ (by omega))) ?_
        refine zag rfl rfl (op_ixsr (j := p + 4) rfl sl23 (ev1 rfl) (ev1 rfl) (fun _ => rfl) (by decide) (by omega) (by omega)) ?_
        refine zag rfl rfl ((op_ldod rfl tb5 (ev1 rfl) rfl).wk (Wk.of_eq (d' := .val (.int .u8 (bAt B (p + 4)))) (by rw [bAt_eq (by omega)]))) ?_
        refine zag rfl rfl (op_build (ps := [(0, .tmp 45), (1, .tmp 50), (2, .tmp 55), (3, .tmp 60)]) rfl fl27 zr27 (vc (ev1 rfl) (vc (ev1 rfl) (vc (ev1 rfl) (vc (ev1 rfl) vn)))) rfl rfl) ?_
        refine zag rfl rfl (op_ixfr (j := acc.length + k) rfl ar29 (ev1 rfl) (ev1 rfl) (fun _ => by omega) (fun _ => by omega)) ?_
        refine lex_s rfl rfl (op_stfr (q := (runAt B p).2) rfl tb27 (ev1 rfl) (ev1 rfl) rfl rfl rfl (fun _ => rfl) (fun _ => by rw [TL.h]; omega)) rfl (by simp only [upd, za, zaa]; exact rfl) ?_
        refine lex_nil ?_
        refine zad ?_
        refine zab rfl rfl rfl (zac (.inl rfl) (ev1 rfl)) ?_
        refine zab rfl rfl rfl (op_add' rfl (ev1 rfl) (ev1 rfl) (fun _ => IntWalk.i64_in _ (by omega))) ?_
        refine zab rfl rfl rfl (zac (.inr rfl) (ev1 rfl)) ?_
        refine zae ?_
        refine zad ?_
        refine zab rfl rfl rfl (op_add' rfl (ev1 rfl) (ev1 rfl) (fun _ => IntWalk.i64_in _ (by omega))) ?_
        refine zab rfl rfl rfl (zac (.inl rfl) (ev1 rfl)) ?_
        refine zae ?_
        refine ⟨k + 1, [0, 1], by omega, by simp only []; omega, rfl, ⟨rfl, rfl, rfl, rfl, rfl, rfl, rfl, trivial⟩, ⟨rfl, by rw [tc_set, padT_rep (by omega)]; rfl, trivial⟩⟩
      · try simp only [yg, ya, beq_iff_eq, bne_iff_ne, yb, yc, yf, ye, yh, yi, yd, ne_eq, yj, Int.not_lt, Int.not_le] at c3
        refine dwp_exit ?_
        refine zad ?_
        refine zab rfl rfl rfl (zac (.inl rfl) (ev1 rfl)) ?_
        refine zab rfl rfl rfl (op_add' rfl (ev1 rfl) (ev1 rfl) (fun _ => IntWalk.i64_in _ (by omega))) ?_
        refine zab rfl rfl rfl (zac (.inr rfl) (ev1 rfl)) ?_
        refine zae ?_
        obtain rfl : k = (bAt B p).toNat := by omega
        refine ⟨(f - 1, acc ++ List.replicate (bAt B p).toNat (runAt B p).2, p + 5), [0, 1], ⟨by rw [List.length_append, List.length_replicate]; omega, hd.1, by rw [List.length_append, List.length_replicate]; omega, hgo⟩, by simp only [List.length_append, List.length_replicate]; omega, rfl, ⟨rfl, by rw [List.length_append, List.length_replicate]; rfl, rfl, rfl, rfl, trivial⟩, ⟨rfl, rfl, trivial⟩⟩
    · refine zad ?_
      refine zab rfl rfl rfl (zac (.inl rfl) (ev1 rfl)) ?_
      refine zab rfl rfl rfl (op_add' rfl (ev1 rfl) (ev1 rfl) (fun _ => IntWalk.i64_in _ (by omega))) ?_
      refine zab rfl rfl rfl (zac (.inl rfl) (ev1 rfl)) ?_
      refine zab rfl rfl rfl (op_len rfl sl23 (ev1 rfl)) ?_
      refine zab rfl rfl rfl (op_gtr rfl (ev1 rfl) (ev1 rfl)) ?_
      refine zab rfl rfl rfl (zac (.inl rfl) (ev1 rfl)) ?_
      refine zai (gd_f rfl rfl rfl) rfl rfl rfl (zac (.inl rfl) (ev1 rfl)) ?_
      refine zai (gd_f rfl rfl rfl) rfl rfl rfl (zac (.inl rfl) (ev1 rfl)) ?_
      refine zai (gd_f rfl rfl rfl) rfl rfl rfl (op_ixsg (j := p) ((0 : Int)) rfl sl23 (ev2 rfl) (ev2 rfl) (fun _ => rfl) (by decide) (fun hp => by first | omega | (simp at hp; omega)) (fun hp => by first | omega | (simp at hp; omega))) ?_
      refine zai (gd_f rfl rfl rfl) rfl rfl rfl (op_ldod rfl tb5 (ev2 rfl) rfl) ?_
      refine zai (gd_f rfl rfl rfl) rfl rfl rfl (op_eql rfl (ev2 rfl) (ev1 rfl)) ?_
      refine zab rfl rfl rfl (op_or rfl (ev1 rfl) (ev3 rfl id)) ?_
      refine zab rfl rfl rfl (zac (.inl rfl) (ev1 rfl)) ?_
      refine zai (gd_f rfl rfl rfl) rfl rfl rfl (zac (.inl rfl) (ev1 rfl)) ?_
      refine zai (gd_f rfl rfl rfl) rfl rfl rfl (zac (.inl rfl) (ev1 rfl)) ?_
      refine zai (gd_f rfl rfl rfl) rfl rfl rfl (zac (.inl rfl) (ev1 rfl)) ?_
      refine zai (gd_f rfl rfl rfl) rfl rfl rfl (op_ixsg (j := p) ((0 : Int)) rfl sl23 (ev2 rfl) (ev2 rfl) (fun _ => rfl) (by decide) (fun hp => by first | omega | (simp at hp; omega)) (fun hp => by first | omega | (simp at hp; omega))) ?_
      refine zai (gd_f rfl rfl rfl) rfl rfl rfl (op_ldod rfl tb5 (ev2 rfl) rfl) ?_
      refine zai (gd_f rfl rfl rfl) rfl rfl rfl (op_conv' ty5 kn3 rfl (ev2 rfl) (fun _ => by have h9 := bAt_in hi p; unfold bAt at h9; exact IntWalk.i64_in _ (by omega))) ?_
      refine zai (gd_f rfl rfl rfl) rfl rfl rfl (op_add' rfl (ev2 rfl) (ev2 rfl) (fun _ => by have h9 := bAt_in hi p; unfold bAt at h9; exact IntWalk.i64_in _ (by omega))) ?_
      refine zai (gd_f rfl rfl rfl) rfl rfl rfl (op_gtr rfl (ev2 rfl) (ev1 rfl)) ?_
      refine zab rfl rfl rfl (op_or rfl (ev1 rfl) (ev3 rfl id)) ?_
      refine zae ?_
      refine dwp_if_t rfl ((docC hi).trans (by rw [decide_eq_false hd]; rfl)) ?_
      refine zaf ?_
      refine zad ?_
      refine zab rfl rfl rfl (op_build0a rfl ar29 zr29) ?_
      refine walk_s rfl rfl (op_stwa rfl tb29 (ev1 rfl) (ev1 rfl) rfl (tc_len _) (tc_oc _) ((tc_len _).trans (tc_len _).symm)) (by simp only [upd, za, zaa]; exact rfl) ?_
      refine zab rfl rfl rfl (zac (.inr rfl) (ev1 rfl)) ?_
      refine zae ?_
      refine dwp_ret ?_
      refine kend0 (rs2 rfl (rv_w tb29 rfl rfl (tc_len _)) (rv_t rfl)) rfl ?_
      rw [rdQ_stop ha2 hd] at hrd
      cases hrd
  · try simp only [yg, ya, beq_iff_eq, bne_iff_ne, yb, yc, yf, ye, yh, yi, yd, ne_eq, yj, Int.not_lt, Int.not_le] at c1
    have ha2 : acc.length = 64 := by omega
    rw [rdQ_done ha2] at hrd
    obtain ⟨rfl, rfl⟩ := Prod.mk.inj (Option.some.inj hrd)
    refine dwp_exit ?_
    refine zaf ?_
    refine zaf ?_
    refine zad ?_
    refine zab rfl rfl rfl (op_ldw rfl tb29 (ev1 rfl) rfl (tc_len _)) ?_
    refine zab rfl rfl rfl (zaj [] [] [] rfl (ev1 rfl) (ec (ev1 rfl) en) rfl rfl (rdtile_d (padT acc)) rfl rfl rfl rfl rfl rfl) ?_
    refine zab rfl rfl rfl (zac (.inr rfl) (ev1 rfl)) ?_
    refine zae ?_
    refine zaf ?_
    refine zad ?_
    refine zab rfl rfl rfl (zac (.inl rfl) (ev1 rfl)) ?_
    refine zab rfl rfl rfl (op_len rfl sl23 (ev1 rfl)) ?_
    refine zab rfl rfl rfl (zac (.inl rfl) (ev1 rfl)) ?_
    refine zab rfl rfl rfl (op_neq rfl (ev1 rfl) (ev1 rfl)) ?_
    refine zab rfl rfl rfl (zac (.inl rfl) (ev1 rfl)) ?_
    refine zai (gd_f rfl rfl rfl) rfl rfl rfl (zac (.inl rfl) (ev1 rfl)) ?_
    refine zai (gd_f rfl rfl rfl) rfl rfl rfl (zac (.inl rfl) (ev1 rfl)) ?_
    refine zai (gd_f rfl rfl rfl) rfl rfl rfl (zaj [] [] [] rfl (ev1 rfl) (ec (ev2 rfl) (ec (ev2 rfl) en)) rfl rfl (begins_d B (tileB (padT acc))) rfl rfl rfl rfl rfl rfl) ?_
    refine zai (gd_f rfl rfl rfl) rfl rfl rfl (op_not rfl (ev2 rfl)) ?_
    refine zab rfl rfl rfl (op_or rfl (ev1 rfl) (ev3 rfl id)) ?_
    refine zae ?_
    refine dwp_if_f rfl (by rw [decide_eq_true hc.2]; simp [hc.1]) ?_
    refine dwp_skip ?_
    refine zaf ?_
    refine zad ?_
    refine zab rfl rfl rfl (op_ldw rfl tb29 (ev1 rfl) rfl (tc_len _)) ?_
    refine zab rfl rfl rfl (zac (.inl rfl) (ev1 rfl)) ?_
    refine walk_s rfl rfl (op_stwa rfl tb29 (ev1 rfl) (ev1 rfl) rfl (tc_len _) (tc_oc _) ((tc_len _).trans (tc_len _).symm)) (by simp only [upd, za, zaa]; exact rfl) ?_
    refine zab rfl rfl rfl (zac (.inr rfl) (ev1 rfl)) ?_
    refine zae ?_
    refine dwp_ret ?_
    refine kend0 (rs2 rfl (rv_w tb29 rfl rfl (tc_len _)) (rv_t rfl)) rfl ?_
    rfl
set_option maxRecDepth 4000 in
set_option maxHeartbeats 1000000 in
theorem rdd_2 (B : List Int) (hB : B.length ≤ 4000000000000000000) (hi : isB B) (l : List C4) (q : Nat) (h0 : rdQ B 64 [] 0 = some (l, q)) (hc : ¬ ((tileB (padT l)).length = q ∧ B.take (tileB (padT l)).length = tileB (padT l))) : DFun Try.prog 15 [.slf 1 (B).length ((B).flatMap u8V)] [] (.tup [.val (.agg (tc zT).toArray), .val (.int .i64 0)]) [] := by
  refine dcalls_go (N := 83) 0 (by kernel_rfl) Try.func15 rfl rfl rfl (by simp only [fr0, Nat.zero_add, Nat.reduceAdd]; exact rfl) rfl fun s0 hs0 => ?_
  refine dwp_len (t := 0) rfl fun hl0 hL0 => ?_
  refine zaf ?_
  refine zah 1 (by simp only [holes, List.cons_append, List.nil_append]; exact rfl) ?_
  refine zad ?_
  refine walk_w rfl rfl rfl (op_alloc 0 rfl zr29 rfl) (by simp only [upd, za, zaa]; exact rfl) ?_
  refine zab rfl rfl rfl (zac (.inr rfl) (ev1 rfl)) ?_
  refine zae ?_
  refine zaf ?_
  refine zah 1 (by simp only [holes, List.cons_append, List.nil_append]; exact rfl) ?_
  refine zad ?_
  refine walk_w rfl rfl rfl (op_alloc 1 rfl zr29 rfl) (by simp only [upd, za, zaa]; exact rfl) ?_
  refine zae ?_
  refine zaf ?_
  refine zad ?_
  refine zab rfl rfl rfl (zac (.inr rfl) (ev1 rfl)) ?_
  refine zab rfl rfl rfl (zac (.inr rfl) (ev1 rfl)) ?_
  refine zae ?_
  refine zaf ?_
  refine dwp_block ?_
  refine dwp_loopS ⟨hs0, rfl⟩ (α := Nat × List C4 × Nat) (fun x => [(5, .val (.int .i64 (x.2.2 : Int))), (6, .val (.int .i64 (x.2.1.length : Int)))]) [(0, _), (2, _), (4, _)] (fun x => [(1, .flat 29 (tc (padT x.2.1)))]) [_, .hole] (fun x => x.2.1.length ≤ 64 ∧ x.2.2 ≤ B.length ∧ 64 ≤ x.1 + x.2.1.length ∧ rdQ B x.1 x.2.1 x.2.2 = some (l, q)) (fun x => 64 - x.2.1.length) (64, [], 0) [0, 1] (⟨Nat.zero_le _, Nat.zero_le _, Nat.le_refl 64, h0⟩) rfl ⟨rfl, rfl, rfl, trivial⟩ ⟨rfl, rfl, trivial⟩ ⟨rfl, by rw [padT_nil]; rfl, trivial⟩ ?_
  intro x hx
  simp only [upd, za, zaa, List.cons_append, List.nil_append]
  obtain ⟨f, acc, p⟩ := x
  obtain ⟨ha, hpl, hf, hrd⟩ := hx
  dsimp only at ha hpl hf hrd ⊢
  refine zaf ?_
  refine zaf ?_
  refine zad ?_
  refine zab rfl rfl rfl (zac (.inl rfl) (ev1 rfl)) ?_
  refine zab rfl rfl rfl (op_lss rfl (ev1 rfl) (ev1 rfl)) ?_
  refine zae ?_
  refine dwp_cond rfl (fun c1 => ?_) (fun c1 => ?_)
  · try simp only [yg, ya, beq_iff_eq, bne_iff_ne, yb, yc, yf, ye, yh, yi, yd, ne_eq, yj, Int.not_lt, Int.not_le] at c1
    have ha2 : acc.length < 64 := by omega
    refine dwp_skip ?_
    refine dwp_block ?_
    refine zaf ?_
    refine zaf ?_
    by_cases hd : p + 5 ≤ B.length ∧ mayD acc (bAt B p) = true
    · obtain ⟨hnb, hgo⟩ := rdQ_go ha2 hf hd hrd
      have hd1 := hd.1
      refine zad ?_
      refine zab rfl rfl rfl (zac (.inl rfl) (ev1 rfl)) ?_
      refine zab rfl rfl rfl (op_add' rfl (ev1 rfl) (ev1 rfl) (fun _ => IntWalk.i64_in _ (by omega))) ?_
      refine zab rfl rfl rfl (zac (.inl rfl) (ev1 rfl)) ?_
      refine zab rfl rfl rfl (op_len rfl sl23 (ev1 rfl)) ?_
      refine zab rfl rfl rfl (op_gtr rfl (ev1 rfl) (ev1 rfl)) ?_
      refine zab rfl rfl rfl (zac (.inl rfl) (ev1 rfl)) ?_
      refine zai (gd_f rfl rfl rfl) rfl rfl rfl (zac (.inl rfl) (ev1 rfl)) ?_
      refine zai (gd_f rfl rfl rfl) rfl rfl rfl (zac (.inl rfl) (ev1 rfl)) ?_
      refine zai (gd_f rfl rfl rfl) rfl rfl rfl (op_ixsg (j := p) ((0 : Int)) rfl sl23 (ev2 rfl) (ev2 rfl) (fun _ => rfl) (by decide) (fun hp => by first | omega | (simp at hp; omega)) (fun hp => by first | omega | (simp at hp; omega))) ?_
      refine zai (gd_f rfl rfl rfl) rfl rfl rfl (op_ldod rfl tb5 (ev2 rfl) rfl) ?_
      refine zai (gd_f rfl rfl rfl) rfl rfl rfl (op_eql rfl (ev2 rfl) (ev1 rfl)) ?_
      refine zab rfl rfl rfl (op_or rfl (ev1 rfl) (ev3 rfl id)) ?_
      refine zab rfl rfl rfl (zac (.inl rfl) (ev1 rfl)) ?_
      refine zai (gd_f rfl rfl rfl) rfl rfl rfl (zac (.inl rfl) (ev1 rfl)) ?_
      refine zai (gd_f rfl rfl rfl) rfl rfl rfl (zac (.inl rfl) (ev1 rfl)) ?_
      refine zai (gd_f rfl rfl rfl) rfl rfl rfl (zac (.inl rfl) (ev1 rfl)) ?_
      refine zai (gd_f rfl rfl rfl) rfl rfl rfl (op_ixsg (j := p) ((0 : Int)) rfl sl23 (ev2 rfl) (ev2 rfl) (fun _ => rfl) (by decide) (fun hp => by first | omega | (simp at hp; omega)) (fun hp => by first | omega | (simp at hp; omega))) ?_
      refine zai (gd_f rfl rfl rfl) rfl rfl rfl (op_ldod rfl tb5 (ev2 rfl) rfl) ?_
      refine zai (gd_f rfl rfl rfl) rfl rfl rfl (op_conv' ty5 kn3 rfl (ev2 rfl) (fun _ => by have h9 := bAt_in hi p; unfold bAt at h9; exact IntWalk.i64_in _ (by omega))) ?_
      refine zai (gd_f rfl rfl rfl) rfl rfl rfl (op_add' rfl (ev2 rfl) (ev2 rfl) (fun _ => by have h9 := bAt_in hi p; unfold bAt at h9; exact IntWalk.i64_in _ (by omega))) ?_
      refine zai (gd_f rfl rfl rfl) rfl rfl rfl (op_gtr rfl (ev2 rfl) (ev1 rfl)) ?_
      refine zab rfl rfl rfl (op_or rfl (ev1 rfl) (ev3 rfl id)) ?_
      refine zae ?_
      refine dwp_if_f rfl ((docC hi).trans (by rw [decide_eq_true hd]; rfl)) ?_
      refine dwp_skip ?_
      refine zaf ?_
      refine zaf ?_
      refine zad ?_
      refine zab rfl rfl rfl (zac (.inl rfl) (ev1 rfl)) ?_
      refine zab rfl rfl rfl (zac (.inl rfl) (ev1 rfl)) ?_
      refine zab rfl rfl rfl (op_ixsr (j := p) rfl sl23 (ev1 rfl) (ev1 rfl) (fun _ => rfl) (by decide) (by omega) (by omega)) ?_
      refine zab rfl rfl rfl ((op_ldod rfl tb5 (ev1 rfl) rfl).wk (Wk.of_eq (d' := .val (.int .u8 (bAt B (p)))) (by rw [bAt_eq (by omega)]))) ?_
      refine zab rfl rfl rfl (op_conv' ty5 kn3 rfl (ev1 rfl) (fun _ => IntWalk.i64_in _ (by omega))) ?_
      refine zab rfl rfl rfl (zac (.inl rfl) (ev1 rfl)) ?_
      refine zae ?_
      refine dwp_block ?_
      refine dwp_loopS ⟨hs0, rfl⟩ (α := Nat) (fun k => [(6, .val (.int .i64 (acc.length + k : Int))), (38, .val (.int .i64 (k : Int)))]) [(0, _), (2, _), (4, _), (5, _), (37, _)] (fun k => [(1, .flat 29 (tc (padT (acc ++ List.replicate k (runAt B p).2))))]) [_, .hole] (fun k => k ≤ (bAt B p).toNat) (fun k => (bAt B p).toNat - k) 0 [0, 1] (Nat.zero_le _) rfl ⟨rfl, rfl, rfl, rfl, rfl, trivial⟩ ⟨rfl, rfl, trivial⟩ ⟨rfl, by rw [List.replicate_zero, List.append_nil]; rfl, trivial⟩ ?_
      intro k hx
      simp only [upd, za, zaa, List.cons_append, List.nil_append]
      have hk0 := hx
      refine zaf ?_
      refine zad ?_
      refine zab rfl rfl rfl (op_lss rfl (ev1 rfl) (ev1 rfl)) ?_
      refine zae ?_
      refine zaf ?_
      refine dwp_cond rfl (fun c3 => ?_) (fun c3 => ?_)
      · try simp only [yg, ya, beq_iff_eq, bne_iff_ne, yb, yc, yf, ye, yh, yi, yd, ne_eq, yj, Int.not_lt, Int.not_le] at c3
        refine dwp_skip ?_
        refine zaf ?_
        refine dwp_block ?_
        refine zaf ?_
        refine dwp_draw [([], []), ([], []), ([], []), ([], []), ([], []), ([], []), ([], []), ([], []), ([], []), ([], []), ([], []), ([], []), ([], []), ([], []), ([], []), ([], []), ([], []), ([], []), ([], []), ([], []), ([], []), ([], []), ([], []), ([1], [1])] mixed (by kernel_rfl) ?_
        refine zag rfl rfl (zac (.inl rfl) (ev1 rfl)) ?_
        refine zag rfl rfl (zac (.inl rfl) (ev1 rfl)) ?_
        refine zag rfl rfl (zac (.inl rfl) (ev1 rfl)) ?_
        refine zag rfl rfl (op_add' rfl (ev1 rfl) (ev1 rfl) (fun _ => IntWalk.i64_in _ (by omega))) ?_
        refine zag rfl rfl (op_ixsr (j := p + 1) rfl sl23 (ev1 rfl) (ev1 rfl) (fun _ => rfl) (by decide) (by omega) (by omega)) ?_
        refine zag rfl rfl ((op_ldod rfl tb5 (ev1 rfl) rfl).wk (Wk.of_eq (d' := .val (.int .u8 (bAt B (p + 1)))) (by rw [bAt_eq (by omega)]))) ?_
        refine zag rfl rfl (zac (.inl rfl) (ev1 rfl)) ?_
        refine zag rfl rfl (zac (.inl rfl) (ev1 rfl)) ?_
        refine zag rfl rfl (op_add' rfl (ev1 rfl) (ev1 rfl) (fun _ => IntWalk.i64_in _ (by omega))) ?_
        refine zag rfl rfl (op_ixsr (j := p + 2) rfl sl23 (ev1 rfl) (ev1 rfl) (fun _ => rfl) (by decide) (by omega) (by omega)) ?_
        refine zag rfl rfl ((op_ldod rfl tb5 (ev1 rfl) rfl).wk (Wk.of_eq (d' := .val (.int .u8 (bAt B (p + 2)))) (by rw [bAt_eq (by omega)]))) ?_
        refine zag rfl rfl (zac (.inl rfl) (ev1 rfl)) ?_
        refine zag rfl rfl (zac (.inl rfl) (ev1 rfl)) ?_
        refine zag rfl rfl (op_add' rfl (ev1 rfl) (ev1 rfl) (fun _ => IntWalk.i64_in _ (by omega))) ?_
        refine zag rfl rfl (op_ixsr (j := p + 3) rfl sl23 (ev1 rfl) (ev1 rfl) (fun _ => rfl) (by decide) (by omega) (by omega)) ?_
        refine zag rfl rfl ((op_ldod rfl tb5 (ev1 rfl) rfl).wk (Wk.of_eq (d' := .val (.int .u8 (bAt B (p + 3)))) (by rw [bAt_eq (by omega)]))) ?_
        refine zag rfl rfl (zac (.inl rfl) (ev1 rfl)) ?_
        refine zag rfl rfl (zac (.inl rfl) (ev1 rfl)) ?_
        refine zag rfl rfl (op_add' rfl (ev1 rfl) (ev1 rfl) (fun _ => IntWalk.i64_in _ (by omega))) ?_
        refine zag rfl rfl (op_ixsr (j := p + 4) rfl sl23 (ev1 rfl) (ev1 rfl) (fun _ => rfl) (by decide) (by omega) (by omega)) ?_
        refine zag rfl rfl ((op_ldod rfl tb5 (ev1 rfl) rfl).wk (Wk.of_eq (d' := .val (.int .u8 (bAt B (p + 4)))) (by rw [bAt_eq (by omega)]))) ?_
        refine zag rfl rfl (op_build (ps := [(0, .tmp 45), (1, .tmp 50), (2, .tmp 55), (3, .tmp 60)]) rfl fl27 zr27 (vc (ev1 rfl) (vc (ev1 rfl) (vc (ev1 rfl) (vc (ev1 rfl) vn)))) rfl rfl) ?_
        refine zag rfl rfl (op_ixfr (j := acc.length + k) rfl ar29 (ev1 rfl) (ev1 rfl) (fun _ => by omega) (fun _ => by omega)) ?_
        refine lex_s rfl rfl (op_stfr (q := (runAt B p).2) rfl tb27 (ev1 rfl) (ev1 rfl) rfl rfl rfl (fun _ => rfl) (fun _ => by rw [TL.h]; omega)) rfl (by simp only [upd, za, zaa]; exact rfl) ?_
        refine lex_nil ?_
        refine zad ?_
        refine zab rfl rfl rfl (zac (.inl rfl) (ev1 rfl)) ?_
        refine zab rfl rfl rfl (op_add' rfl (ev1 rfl) (ev1 rfl) (fun _ => IntWalk.i64_in _ (by omega))) ?_
        refine zab rfl rfl rfl (zac (.inr rfl) (ev1 rfl)) ?_
        refine zae ?_
        refine zad ?_
        refine zab rfl rfl rfl (op_add' rfl (ev1 rfl) (ev1 rfl) (fun _ => IntWalk.i64_in _ (by omega))) ?_
        refine zab rfl rfl rfl (zac (.inl rfl) (ev1 rfl)) ?_
        refine zae ?_
        refine ⟨k + 1, [0, 1], by omega, by simp only []; omega, rfl, ⟨rfl, rfl, rfl, rfl, rfl, rfl, rfl, trivial⟩, ⟨rfl, by rw [tc_set, padT_rep (by omega)]; rfl, trivial⟩⟩
      · try simp only [yg, ya, beq_iff_eq, bne_iff_ne, yb, yc, yf, ye, yh, yi, yd, ne_eq, yj, Int.not_lt, Int.not_le] at c3
        refine dwp_exit ?_
        refine zad ?_
        refine zab rfl rfl rfl (zac (.inl rfl) (ev1 rfl)) ?_
        refine zab rfl rfl rfl (op_add' rfl (ev1 rfl) (ev1 rfl) (fun _ => IntWalk.i64_in _ (by omega))) ?_
        refine zab rfl rfl rfl (zac (.inr rfl) (ev1 rfl)) ?_
        refine zae ?_
        obtain rfl : k = (bAt B p).toNat := by omega
        refine ⟨(f - 1, acc ++ List.replicate (bAt B p).toNat (runAt B p).2, p + 5), [0, 1], ⟨by rw [List.length_append, List.length_replicate]; omega, hd.1, by rw [List.length_append, List.length_replicate]; omega, hgo⟩, by simp only [List.length_append, List.length_replicate]; omega, rfl, ⟨rfl, by rw [List.length_append, List.length_replicate]; rfl, rfl, rfl, rfl, trivial⟩, ⟨rfl, rfl, trivial⟩⟩
    · refine zad ?_
      refine zab rfl rfl rfl (zac (.inl rfl) (ev1 rfl)) ?_
      refine zab rfl rfl rfl (op_add' rfl (ev1 rfl) (ev1 rfl) (fun _ => IntWalk.i64_in _ (by omega))) ?_
      refine zab rfl rfl rfl (zac (.inl rfl) (ev1 rfl)) ?_
      refine zab rfl rfl rfl (op_len rfl sl23 (ev1 rfl)) ?_
      refine zab rfl rfl rfl (op_gtr rfl (ev1 rfl) (ev1 rfl)) ?_
      refine zab rfl rfl rfl (zac (.inl rfl) (ev1 rfl)) ?_
      refine zai (gd_f rfl rfl rfl) rfl rfl rfl (zac (.inl rfl) (ev1 rfl)) ?_
      refine zai (gd_f rfl rfl rfl) rfl rfl rfl (zac (.inl rfl) (ev1 rfl)) ?_
      refine zai (gd_f rfl rfl rfl) rfl rfl rfl (op_ixsg (j := p) ((0 : Int)) rfl sl23 (ev2 rfl) (ev2 rfl) (fun _ => rfl) (by decide) (fun hp => by first | omega | (simp at hp; omega)) (fun hp => by first | omega | (simp at hp; omega))) ?_
      refine zai (gd_f rfl rfl rfl) rfl rfl rfl (op_ldod rfl tb5 (ev2 rfl) rfl) ?_
      refine zai (gd_f rfl rfl rfl) rfl rfl rfl (op_eql rfl (ev2 rfl) (ev1 rfl)) ?_
      refine zab rfl rfl rfl (op_or rfl (ev1 rfl) (ev3 rfl id)) ?_
      refine zab rfl rfl rfl (zac (.inl rfl) (ev1 rfl)) ?_
      refine zai (gd_f rfl rfl rfl) rfl rfl rfl (zac (.inl rfl) (ev1 rfl)) ?_
      refine zai (gd_f rfl rfl rfl) rfl rfl rfl (zac (.inl rfl) (ev1 rfl)) ?_
      refine zai (gd_f rfl rfl rfl) rfl rfl rfl (zac (.inl rfl) (ev1 rfl)) ?_
      refine zai (gd_f rfl rfl rfl) rfl rfl rfl (op_ixsg (j := p) ((0 : Int)) rfl sl23 (ev2 rfl) (ev2 rfl) (fun _ => rfl) (by decide) (fun hp => by first | omega | (simp at hp; omega)) (fun hp => by first | omega | (simp at hp; omega))) ?_
      refine zai (gd_f rfl rfl rfl) rfl rfl rfl (op_ldod rfl tb5 (ev2 rfl) rfl) ?_
      refine zai (gd_f rfl rfl rfl) rfl rfl rfl (op_conv' ty5 kn3 rfl (ev2 rfl) (fun _ => by have h9 := bAt_in hi p; unfold bAt at h9; exact IntWalk.i64_in _ (by omega))) ?_
      refine zai (gd_f rfl rfl rfl) rfl rfl rfl (op_add' rfl (ev2 rfl) (ev2 rfl) (fun _ => by have h9 := bAt_in hi p; unfold bAt at h9; exact IntWalk.i64_in _ (by omega))) ?_
      refine zai (gd_f rfl rfl rfl) rfl rfl rfl (op_gtr rfl (ev2 rfl) (ev1 rfl)) ?_
      refine zab rfl rfl rfl (op_or rfl (ev1 rfl) (ev3 rfl id)) ?_
      refine zae ?_
      refine dwp_if_t rfl ((docC hi).trans (by rw [decide_eq_false hd]; rfl)) ?_
      refine zaf ?_
      refine zad ?_
      refine zab rfl rfl rfl (op_build0a rfl ar29 zr29) ?_
      refine walk_s rfl rfl (op_stwa rfl tb29 (ev1 rfl) (ev1 rfl) rfl (tc_len _) (tc_oc _) ((tc_len _).trans (tc_len _).symm)) (by simp only [upd, za, zaa]; exact rfl) ?_
      refine zab rfl rfl rfl (zac (.inr rfl) (ev1 rfl)) ?_
      refine zae ?_
      refine dwp_ret ?_
      refine kend0 (rs2 rfl (rv_w tb29 rfl rfl (tc_len _)) (rv_t rfl)) rfl ?_
      rfl
  · try simp only [yg, ya, beq_iff_eq, bne_iff_ne, yb, yc, yf, ye, yh, yi, yd, ne_eq, yj, Int.not_lt, Int.not_le] at c1
    have ha2 : acc.length = 64 := by omega
    rw [rdQ_done ha2] at hrd
    obtain ⟨rfl, rfl⟩ := Prod.mk.inj (Option.some.inj hrd)
    refine dwp_exit ?_
    refine zaf ?_
    refine zaf ?_
    refine zad ?_
    refine zab rfl rfl rfl (op_ldw rfl tb29 (ev1 rfl) rfl (tc_len _)) ?_
    refine zab rfl rfl rfl (zaj [] [] [] rfl (ev1 rfl) (ec (ev1 rfl) en) rfl rfl (rdtile_d (padT acc)) rfl rfl rfl rfl rfl rfl) ?_
    refine zab rfl rfl rfl (zac (.inr rfl) (ev1 rfl)) ?_
    refine zae ?_
    refine zaf ?_
    refine zad ?_
    refine zab rfl rfl rfl (zac (.inl rfl) (ev1 rfl)) ?_
    refine zab rfl rfl rfl (op_len rfl sl23 (ev1 rfl)) ?_
    refine zab rfl rfl rfl (zac (.inl rfl) (ev1 rfl)) ?_
    refine zab rfl rfl rfl (op_neq rfl (ev1 rfl) (ev1 rfl)) ?_
    refine zab rfl rfl rfl (zac (.inl rfl) (ev1 rfl)) ?_
    refine zai (gd_f rfl rfl rfl) rfl rfl rfl (zac (.inl rfl) (ev1 rfl)) ?_
    refine zai (gd_f rfl rfl rfl) rfl rfl rfl (zac (.inl rfl) (ev1 rfl)) ?_
    refine zai (gd_f rfl rfl rfl) rfl rfl rfl (zaj [] [] [] rfl (ev1 rfl) (ec (ev2 rfl) (ec (ev2 rfl) en)) rfl rfl (begins_d B (tileB (padT acc))) rfl rfl rfl rfl rfl rfl) ?_
    refine zai (gd_f rfl rfl rfl) rfl rfl rfl (op_not rfl (ev2 rfl)) ?_
    refine zab rfl rfl rfl (op_or rfl (ev1 rfl) (ev3 rfl id)) ?_
    refine zae ?_
    refine dwp_if_t rfl (by
  rw [← Bool.not_eq_false]
  intro g
  simp at g
  exact hc ⟨by have := g.1; omega, g.2⟩) ?_
    refine zaf ?_
    refine zad ?_
    refine zab rfl rfl rfl (op_build0a rfl ar29 zr29) ?_
    refine walk_s rfl rfl (op_stwa rfl tb29 (ev1 rfl) (ev1 rfl) rfl (tc_len _) (tc_oc _) ((tc_len _).trans (tc_len _).symm)) (by simp only [upd, za, zaa]; exact rfl) ?_
    refine zab rfl rfl rfl (zac (.inr rfl) (ev1 rfl)) ?_
    refine zae ?_
    refine dwp_ret ?_
    refine kend0 (rs2 rfl (rv_w tb29 rfl rfl (tc_len _)) (rv_t rfl)) rfl ?_
    rfl
end Go.Proofs.Ytcbfnbfhlofkiaa
namespace Go.Proofs.Ytcbfnbfhlofkiaa
set_option maxRecDepth 4000
set_option linter.unusedVariables false
set_option linter.unusedSimpArgs false
open Go.RowKit
attribute [local irreducible] runG bytesG posG tileB tilesB padT rdP rdN mayG rdQ
theorem rdd_y (B : List Int) (hB : B.length ≤ 4000000000000000000) (hi : isB B) (l : List C4) (q : Nat) (h0 : rdN B 0 = some (l, q)) : DFun Try.prog 15 [.slf 1 (B).length ((B).flatMap u8V)] [] (.tup [.val (.agg (tc (padT l)).toArray), .val (.int .i64 (q : Nat))]) [] := by
  obtain ⟨g1, g2, g3, g4⟩ := rdN_bytes h0
  have hp : rdP B 64 [] 0 = some (l, q) := by unfold rdN at h0; exact h0
  refine rdd_1 B hB hi l q (rdQ_of (by decide) hp) ⟨g2.symm, ?_⟩
  have h1 := congrArg (List.take (tileB (padT l)).length) g1
  rw [List.take_left'] at h1
  · exact h1
  · rfl
theorem rdd_n (B : List Int) (hB : B.length ≤ 4000000000000000000) (hi : isB B) (h0 : rdN B 0 = none) : DFun Try.prog 15 [.slf 1 (B).length ((B).flatMap u8V)] [] (.tup [.val (.agg (tc zT).toArray), .val (.int .i64 0)]) [] := by
  cases hx : rdQ B 64 [] 0 with
  | none => exact rdd_0 B hB hi hx
  | some x =>
    obtain ⟨l, q⟩ := x
    refine rdd_2 B hB hi l q hx fun hc => ?_
    rw [doc_y (rdQ_len hx) hc.1 hc.2] at h0
    cases h0
theorem rdN_lt {B : List Int} {p q : Nat} {l : List C4} (h : rdN B p = some (l, q)) : p < q := by
  unfold rdN at h
  obtain ⟨h5, hm, h1, h2⟩ := rdP_some h
  by_cases h6 : ([] : List C4).length + (runAt B p).1.toNat = 64
  · obtain ⟨_, rfl⟩ := h1 h6; omega
  · have := rdP_le (h2 h6); omega
end Go.Proofs.Ytcbfnbfhlofkiaa
namespace Go.Proofs.Ytcbfnbfhlofkiaa
set_option maxRecDepth 4000
set_option linter.unusedVariables false
set_option linter.unusedSimpArgs false
open Go.RowKit
attribute [local irreducible] runG bytesG posG tileB tilesB padT rdP rdN mayG rdQ sizeN
theorem un4 : Try.prog.underlying 4 = some .bool := by kernel_rfl
theorem sizeN_nil : sizeN [] = 0 := by unfold sizeN; rfl
theorem tk_len {α : Type} (l : List α) (n : Nat) : l.take (l.take n).length = l.take n := by
  rw [List.length_take, Nat.min_comm, tk_min]
set_option maxRecDepth 4000 in
set_option maxHeartbeats 1000000 in
theorem rtiles_d (ts : List TL) (x : List Int) (hi : isB x) : DFun Try.prog 3 [.slf 256 ts.length (ts.flatMap tc), .slf 1 (x).length ((x).flatMap u8V)] [] (.val (.bool true)) [] := by
  have hl8 : (ts.take 8).length ≤ 8 := by rw [List.length_take]; omega
  have hb7 : (x.take 700).length ≤ 700 := by rw [List.length_take]; omega
  have hb8 : (x.take 700).length ≤ x.length := by rw [List.length_take]; omega
  have hib := isB_take hi 700
  refine dcalls_go (N := 95) 0 (by kernel_rfl) Try.func3 rfl rfl rfl (by simp only [fr0, Nat.zero_add, Nat.reduceAdd]; exact rfl) rfl fun s0 hs0 => ?_
  refine dwp_len (t := 0) rfl fun hl0 hL0 => ?_
  refine dwp_len (t := 1) rfl fun hl1 hL1 => ?_
  refine zaf ?_
  refine zad ?_
  refine zab rfl rfl rfl (zac (.inr rfl) (ev1 rfl)) ?_
  refine zae ?_
  refine zaf ?_
  refine zaf ?_
  refine zad ?_
  refine zab rfl rfl rfl (zaj [] [] [] rfl (ev1 rfl) en rfl rfl (wakes_d) rfl rfl rfl rfl rfl rfl) ?_
  refine zab rfl rfl rfl (op_not rfl (ev1 rfl)) ?_
  refine zae ?_
  refine dwp_if_f rfl (rfl) ?_
  refine dwp_skip ?_
  refine zaf ?_
  refine zad ?_
  refine zab rfl rfl rfl (zac (.inl rfl) (ev1 rfl)) ?_
  refine zab rfl rfl rfl (zac (.inl rfl) (ev1 rfl)) ?_
  refine zab rfl rfl rfl (op_len rfl sl22 (ev1 rfl)) ?_
  refine zab rfl rfl rfl (op_min rfl (ev1 rfl) (ev1 rfl)) ?_
  refine zab rfl rfl rfl ((op_sltk (j := min ts.length 8) rfl sl22 (ev1 rfl) (bd_some (ev1 rfl)) (fun _ => by omega) (fun _ => by omega) tc_len).cast (d' := .slf 256 (ts.take 8).length ((ts.take 8).flatMap tc)) (by rw [tk_min])) ?_
  refine zab rfl rfl rfl (zaj [] [] [] rfl (ev1 rfl) (ec (ev1 rfl) en) rfl rfl (cloneT_f (ts.take 8) (by omega)) rfl rfl rfl rfl rfl rfl) ?_
  refine zab rfl rfl rfl (zac (.inr rfl) (ev1 rfl)) ?_
  refine zae ?_
  refine zaf ?_
  refine zad ?_
  refine zab rfl rfl rfl (zac (.inr rfl) (ev1 rfl)) ?_
  refine zae ?_
  refine zaf ?_
  refine zaf ?_
  refine zad ?_
  refine zab rfl rfl rfl (zac (.inl rfl) (ev1 rfl)) ?_
  refine zab rfl rfl rfl (op_len rfl sl22 (ev1 rfl)) ?_
  refine zab rfl rfl rfl (zac (.inl rfl) (ev1 rfl)) ?_
  refine zae ?_
  refine dwp_block ?_
  refine dwp_loopS ⟨hs0, rfl⟩ (α := Nat) (fun k => [(5, .val (.int .i64 (sizeN ((ts.take 8).take k) : Int))), (25, .val (.int .i64 (k : Int)))]) [(0, _), (1, _), (23, _), (24, _)] (fun k => []) [] (fun k => k ≤ (ts.take 8).length) (fun k => (ts.take 8).length - k) 0 [] (Nat.zero_le _) rfl ⟨rfl, rfl, rfl, rfl, trivial⟩ ⟨by rw [List.take_zero, sizeN_nil]; rfl, rfl, trivial⟩ trivial ?_
  intro k hx
  simp only [upd, za, zaa, List.cons_append, List.nil_append]
  have hk0 := hx
  have hsl := sizeN_le ((ts.take 8).take k)
  rw [List.length_take] at hsl
  refine zaf ?_
  refine zad ?_
  refine zab rfl rfl rfl (op_lss rfl (ev1 rfl) (ev1 rfl)) ?_
  refine zae ?_
  refine zaf ?_
  refine dwp_cond rfl (fun c2 => ?_) (fun c2 => ?_)
  · try simp only [yg, ya, beq_iff_eq, bne_iff_ne, yb, yc, yf, ye, yh, yi, yd, ne_eq, yj, Int.not_lt, Int.not_le] at c2
    refine dwp_skip ?_
    refine zaf ?_
    refine dwp_block ?_
    refine zaf ?_
    have hk : k < (ts.take 8).length := by omega
    have htl := tileB_len (ts.take 8)[k]
    refine zah 1 (by simp only [holes, List.cons_append, List.nil_append]; exact rfl) ?_
    refine zad ?_
    refine zab rfl rfl rfl (op_ixsr (j := k) rfl sl22 (ev1 rfl) (ev1 rfl) tc_len (by decide) (by omega) (by omega)) ?_
    refine zab rfl rfl rfl (op_ldwd rfl tb29 (ev1 rfl) (tc_len _)) ?_
    refine walk_w rfl rfl rfl (op_alloc 0 rfl zr29 rfl) (by simp only [upd, za, zaa]; exact rfl) ?_
    refine walk_s rfl rfl (op_stwa rfl tb29 (ev1 rfl) (ev1 rfl) rfl (tc_len _) (tc_oc _) ((tc_len _).trans (tc_len _).symm)) (by simp only [upd, za, zaa]; exact rfl) ?_
    refine zae ?_
    refine zaf ?_
    refine zad ?_
    refine zab rfl rfl rfl (op_ldw rfl tb29 (ev1 rfl) rfl (tc_len _)) ?_
    refine zab rfl rfl rfl (zaj [] [] [] rfl (ev1 rfl) (ec (ev1 rfl) en) rfl rfl (rtile_d (ts.take 8)[k]) rfl rfl rfl rfl rfl rfl) ?_
    refine zab rfl rfl rfl (zac (.inr rfl) (ev1 rfl)) ?_
    refine zae ?_
    refine zaf ?_
    refine zaf ?_
    refine zad ?_
    refine zab rfl rfl rfl (zac (.inl rfl) (ev1 rfl)) ?_
    refine zab rfl rfl rfl (op_ldw rfl tb29 (ev1 rfl) rfl (tc_len _)) ?_
    refine zab rfl rfl rfl (zaj [] [] [] rfl (ev1 rfl) (ec (ev1 rfl) en) rfl rfl (rdtile_d (ts.take 8)[k]) rfl rfl rfl rfl rfl rfl) ?_
    refine zab rfl rfl rfl (zaj [] [] [] rfl (ev1 rfl) (ec (ev1 rfl) (ec (ev1 rfl) en)) rfl rfl (equalB (tileB (ts.take 8)[k]) (tileB (ts.take 8)[k])) rfl rfl rfl rfl rfl rfl) ?_
    refine zab rfl rfl rfl (op_not rfl (ev1 rfl)) ?_
    refine zae ?_
    refine dwp_if_f rfl (by simp) ?_
    refine dwp_skip ?_
    refine zad ?_
    refine zab rfl rfl rfl (zac (.inl rfl) (ev1 rfl)) ?_
    refine zab rfl rfl rfl (zac (.inl rfl) (ev1 rfl)) ?_
    refine zab rfl rfl rfl (op_len rfl sl23 (ev1 rfl)) ?_
    refine zab rfl rfl rfl (op_add' rfl (ev1 rfl) (ev1 rfl) (fun _ => IntWalk.i64_in _ (by omega))) ?_
    refine zab rfl rfl rfl (zac (.inr rfl) (ev1 rfl)) ?_
    refine zae ?_
    refine zad ?_
    refine zab rfl rfl rfl (op_add' rfl (ev1 rfl) (ev1 rfl) (fun _ => IntWalk.i64_in _ (by omega))) ?_
    refine zab rfl rfl rfl (zac (.inl rfl) (ev1 rfl)) ?_
    refine zae ?_
    refine ⟨k + 1, [], by omega, by simp only []; omega, rfl, ⟨by rw [sizeN_take hk, ← tileB_runs]; rfl, rfl, rfl, rfl, rfl, rfl, trivial⟩, trivial⟩
  · try simp only [yg, ya, beq_iff_eq, bne_iff_ne, yb, yc, yf, ye, yh, yi, yd, ne_eq, yj, Int.not_lt, Int.not_le] at c2
    refine dwp_exit ?_
    refine zaf ?_
    have hke : (ts.take 8).take k = (ts.take 8) := List.take_of_length_le (by omega)
    rw [hke]
    refine zad ?_
    refine zab rfl rfl rfl (zac (.inl rfl) (ev1 rfl)) ?_
    refine zab rfl rfl rfl (zac (.inl rfl) (ev1 rfl)) ?_
    refine zab rfl rfl rfl (op_len rfl sl23 (ev1 rfl)) ?_
    refine zab rfl rfl rfl (op_min rfl (ev1 rfl) (ev1 rfl)) ?_
    refine zab rfl rfl rfl ((op_sltk (j := min x.length 700) rfl sl23 (ev1 rfl) (bd_some (ev1 rfl)) (fun _ => by omega) (fun _ => by omega) (fun _ => rfl)).cast (d' := .slf 1 ((x.take 700)).length (((x.take 700)).flatMap u8V)) (by rw [tk_min])) ?_
    refine zab rfl rfl rfl (zaj [] [] [] rfl (ev1 rfl) (ec (ev1 rfl) en) rfl rfl (cloneB_f (x.take 700) (by omega)) rfl rfl rfl rfl rfl rfl) ?_
    refine zab rfl rfl rfl (zac (.inr rfl) (ev1 rfl)) ?_
    refine zae ?_
    refine zaf ?_
    by_cases h0 : rdN (x.take 700) 0 = none
    · refine zah 1 (by simp only [holes, List.cons_append, List.nil_append]; exact rfl) ?_
      refine zad ?_
      refine zab rfl rfl rfl (zac (.inl rfl) (ev1 rfl)) ?_
      refine zab rfl rfl rfl (zaj [] [] [] rfl (ev1 rfl) (ec (ev1 rfl) en) rfl rfl (rdt_no (x.take 700) (by omega) hib h0) rfl rfl rfl rfl rfl rfl) ?_
      refine zab rfl rfl rfl (zac (.inl rfl) (ev1 rfl)) ?_
      refine zab rfl rfl rfl (op_ext rfl (ev1 rfl) rfl) ?_
      refine zab rfl rfl rfl (op_ext rfl (ev1 rfl) rfl) ?_
      refine zab rfl rfl rfl (op_ext rfl (ev1 rfl) rfl) ?_
      refine walk_w rfl rfl rfl (op_alloc 0 rfl zr29 rfl) (by simp only [upd, za, zaa]; exact rfl) ?_
      refine walk_s rfl rfl (op_stwa rfl tb29 (ev1 rfl) (ev1 rfl) rfl (tc_len _) (tc_oc _) ((tc_len _).trans (tc_len _).symm)) (by simp only [upd, za, zaa]; exact rfl) ?_
      refine zab rfl rfl rfl (zac (.inr rfl) (ev1 rfl)) ?_
      refine zab rfl rfl rfl (zac (.inr rfl) (ev1 rfl)) ?_
      refine zae ?_
      refine zaf ?_
      refine zah 1 (by simp only [holes, List.cons_append, List.nil_append]; exact rfl) ?_
      refine zad ?_
      refine zab rfl rfl rfl (zac (.inl rfl) (ev1 rfl)) ?_
      refine zab rfl rfl rfl (zaj [] [] [] rfl (ev1 rfl) (ec (ev1 rfl) en) rfl rfl (rdd_n (x.take 700) (by omega) hib h0) rfl rfl rfl rfl rfl rfl) ?_
      refine zab rfl rfl rfl (zac (.inl rfl) (ev1 rfl)) ?_
      refine zab rfl rfl rfl (op_ext rfl (ev1 rfl) rfl) ?_
      refine zab rfl rfl rfl (op_ext rfl (ev1 rfl) rfl) ?_
      refine walk_w rfl rfl rfl (op_alloc 1 rfl zr29 rfl) (by simp only [upd, za, zaa]; exact rfl) ?_
      refine walk_s rfl rfl (op_stwa rfl tb29 (ev1 rfl) (ev1 rfl) rfl (tc_len _) (tc_oc _) ((tc_len _).trans (tc_len _).symm)) (by simp only [upd, za, zaa]; exact rfl) ?_
      refine zab rfl rfl rfl (zac (.inr rfl) (ev1 rfl)) ?_
      refine zae ?_
      refine zaf ?_
      refine zad ?_
      refine zab rfl rfl rfl (zac (.inl rfl) (ev1 rfl)) ?_
      refine zab rfl rfl rfl (zaj [] [] [] rfl (ev1 rfl) (ec (ev1 rfl) en) rfl rfl (size_d (ts.take 8) (by omega)) rfl rfl rfl rfl rfl rfl) ?_
      refine zab rfl rfl rfl (zac (.inl rfl) (ev1 rfl)) ?_
      refine zab rfl rfl rfl (op_eql rfl (ev1 rfl) (ev1 rfl)) ?_
      refine zab rfl rfl rfl (zac (.inl rfl) (ev1 rfl)) ?_
      refine zai (gd_t rfl rfl rfl) rfl rfl rfl (op_ldw rfl tb29 (ev1 rfl) rfl (tc_len _)) ?_
      refine zai (gd_t rfl rfl rfl) rfl rfl rfl (op_ldw rfl tb29 (ev1 rfl) rfl (tc_len _)) ?_
      refine zai (gd_t rfl rfl rfl) rfl rfl rfl (op_eqr eq29 rfl gd29 tb29 (ev2 rfl) (ev2 rfl)) ?_
      refine zab rfl rfl rfl (op_and rfl (ev1 rfl) (ev3 rfl id)) ?_
      refine zab rfl rfl rfl (zac (.inl rfl) (ev1 rfl)) ?_
      refine zai (gd_t rfl rfl rfl) rfl rfl rfl (zac (.inl rfl) (ev1 rfl)) ?_
      refine zai (gd_t rfl rfl rfl) rfl rfl rfl (zac (.inl rfl) (ev1 rfl)) ?_
      refine zai (gd_t rfl rfl rfl) rfl rfl rfl (op_eql rfl (ev2 rfl) (ev2 rfl)) ?_
      refine zab rfl rfl rfl (op_and rfl (ev1 rfl) (ev3 rfl id)) ?_
      refine zab rfl rfl rfl (zac (.inl rfl) (ev1 rfl)) ?_
      refine zai (gd_t rfl rfl rfl) rfl rfl rfl (zac (.inl rfl) (ev1 rfl)) ?_
      refine zai (gd_t rfl rfl rfl) rfl rfl rfl (op_eql rfl (ev2 rfl) (ev1 rfl)) ?_
      refine zai (gd_t rfl rfl rfl) rfl rfl rfl (zac (.inl rfl) (ev1 rfl)) ?_
      refine zai (gd_t rfl rfl rfl) rfl rfl rfl (op_gtr rfl (ev2 rfl) (ev1 rfl)) ?_
      refine zai (gd_t rfl rfl rfl) rfl rfl rfl (op_eqb rfl un4 (ev2 rfl) (ev2 rfl)) ?_
      refine zab rfl rfl rfl (op_and rfl (ev1 rfl) (ev3 rfl id)) ?_
      refine zab rfl rfl rfl (zac (.inl rfl) (ev1 rfl)) ?_
      refine zai (gd_t rfl rfl rfl) rfl rfl rfl (zac (.inl rfl) (ev1 rfl)) ?_
      refine zai (gd_t rfl rfl rfl) rfl rfl rfl (op_gtr rfl (ev2 rfl) (ev1 rfl)) ?_
      refine zai (gd_t rfl rfl rfl) rfl rfl rfl (zac (.inl rfl) (ev2 rfl)) ?_
      refine zai (gd_ff rfl rfl rfl) rfl rfl rfl (zac (.inl rfl) (ev1 rfl)) ?_
      refine zai (gd_ff rfl rfl rfl) rfl rfl rfl (op_eql rfl (ev2 rfl) (ev1 rfl)) ?_
      refine zai (gd_t rfl rfl rfl) rfl rfl rfl (op_or rfl (ev2 rfl) (ev2 rfl)) ?_
      refine zab rfl rfl rfl (op_and rfl (ev1 rfl) (ev3 rfl id)) ?_
      refine zab rfl rfl rfl (zac (.inl rfl) (ev1 rfl)) ?_
      refine zai (gd_t rfl rfl rfl) rfl rfl rfl (zac (.inl rfl) (ev1 rfl)) ?_
      refine zai (gd_t rfl rfl rfl) rfl rfl rfl (zac (.inl rfl) (ev1 rfl)) ?_
      refine zai (gd_t rfl rfl rfl) rfl rfl rfl (zac (.inl rfl) (ev1 rfl)) ?_
      refine zai (gd_t rfl rfl rfl) rfl rfl rfl (op_len rfl sl23 (ev2 rfl)) ?_
      refine zai (gd_t rfl rfl rfl) rfl rfl rfl (op_sltk (j := (x.take 700).length) rfl sl23 (ev2 rfl) (bd_some (ev2 rfl)) (fun _ => by omega) (fun _ => by omega) (fun _ => rfl)) ?_
      refine zai (gd_t rfl rfl rfl) rfl rfl rfl (zaj [] [] [] rfl (ev1 rfl) (ec (ev2 rfl) (ec (ev2 rfl) en)) rfl rfl (equalB (x.take 700) (x.take (x.take 700).length)) rfl rfl rfl rfl rfl rfl) ?_
      refine zab rfl rfl rfl (op_and rfl (ev1 rfl) (ev3 rfl id)) ?_
      refine zab rfl rfl rfl (zac (.inr rfl) (ev1 rfl)) ?_
      refine zae ?_
      refine dwp_ret ?_
      refine kend0 (rs1 rfl (rv_t rfl)) rfl ?_
      rw [tk_len]
      simp
    · obtain ⟨⟨l, q⟩, h0⟩ : ∃ y, rdN (x.take 700) 0 = some y := by
        cases h1 : rdN (x.take 700) 0 with
        | none => exact absurd h1 h0
        | some y => exact ⟨y, rfl⟩
      have hq := rdN_lt h0
      refine zah 1 (by simp only [holes, List.cons_append, List.nil_append]; exact rfl) ?_
      refine zad ?_
      refine zab rfl rfl rfl (zac (.inl rfl) (ev1 rfl)) ?_
      refine zab rfl rfl rfl (zaj [] [] [] rfl (ev1 rfl) (ec (ev1 rfl) en) rfl rfl (rdt_ok (x.take 700) (by omega) hib l q h0) rfl rfl rfl rfl rfl rfl) ?_
      refine zab rfl rfl rfl (zac (.inl rfl) (ev1 rfl)) ?_
      refine zab rfl rfl rfl (op_ext rfl (ev1 rfl) rfl) ?_
      refine zab rfl rfl rfl (op_ext rfl (ev1 rfl) rfl) ?_
      refine zab rfl rfl rfl (op_ext rfl (ev1 rfl) rfl) ?_
      refine walk_w rfl rfl rfl (op_alloc 0 rfl zr29 rfl) (by simp only [upd, za, zaa]; exact rfl) ?_
      refine walk_s rfl rfl (op_stwa rfl tb29 (ev1 rfl) (ev1 rfl) rfl (tc_len _) (tc_oc _) ((tc_len _).trans (tc_len _).symm)) (by simp only [upd, za, zaa]; exact rfl) ?_
      refine zab rfl rfl rfl (zac (.inr rfl) (ev1 rfl)) ?_
      refine zab rfl rfl rfl (zac (.inr rfl) (ev1 rfl)) ?_
      refine zae ?_
      refine zaf ?_
      refine zah 1 (by simp only [holes, List.cons_append, List.nil_append]; exact rfl) ?_
      refine zad ?_
      refine zab rfl rfl rfl (zac (.inl rfl) (ev1 rfl)) ?_
      refine zab rfl rfl rfl (zaj [] [] [] rfl (ev1 rfl) (ec (ev1 rfl) en) rfl rfl (rdd_y (x.take 700) (by omega) hib l q h0) rfl rfl rfl rfl rfl rfl) ?_
      refine zab rfl rfl rfl (zac (.inl rfl) (ev1 rfl)) ?_
      refine zab rfl rfl rfl (op_ext rfl (ev1 rfl) rfl) ?_
      refine zab rfl rfl rfl (op_ext rfl (ev1 rfl) rfl) ?_
      refine walk_w rfl rfl rfl (op_alloc 1 rfl zr29 rfl) (by simp only [upd, za, zaa]; exact rfl) ?_
      refine walk_s rfl rfl (op_stwa rfl tb29 (ev1 rfl) (ev1 rfl) rfl (tc_len _) (tc_oc _) ((tc_len _).trans (tc_len _).symm)) (by simp only [upd, za, zaa]; exact rfl) ?_
      refine zab rfl rfl rfl (zac (.inr rfl) (ev1 rfl)) ?_
      refine zae ?_
      refine zaf ?_
      refine zad ?_
      refine zab rfl rfl rfl (zac (.inl rfl) (ev1 rfl)) ?_
      refine zab rfl rfl rfl (zaj [] [] [] rfl (ev1 rfl) (ec (ev1 rfl) en) rfl rfl (size_d (ts.take 8) (by omega)) rfl rfl rfl rfl rfl rfl) ?_
      refine zab rfl rfl rfl (zac (.inl rfl) (ev1 rfl)) ?_
      refine zab rfl rfl rfl (op_eql rfl (ev1 rfl) (ev1 rfl)) ?_
      refine zab rfl rfl rfl (zac (.inl rfl) (ev1 rfl)) ?_
      refine zai (gd_t rfl rfl rfl) rfl rfl rfl (op_ldw rfl tb29 (ev1 rfl) rfl (tc_len _)) ?_
      refine zai (gd_t rfl rfl rfl) rfl rfl rfl (op_ldw rfl tb29 (ev1 rfl) rfl (tc_len _)) ?_
      refine zai (gd_t rfl rfl rfl) rfl rfl rfl (op_eqr eq29 rfl gd29 tb29 (ev2 rfl) (ev2 rfl)) ?_
      refine zab rfl rfl rfl (op_and rfl (ev1 rfl) (ev3 rfl id)) ?_
      refine zab rfl rfl rfl (zac (.inl rfl) (ev1 rfl)) ?_
      refine zai (gd_t rfl rfl rfl) rfl rfl rfl (zac (.inl rfl) (ev1 rfl)) ?_
      refine zai (gd_t rfl rfl rfl) rfl rfl rfl (zac (.inl rfl) (ev1 rfl)) ?_
      refine zai (gd_t rfl rfl rfl) rfl rfl rfl (op_eql rfl (ev2 rfl) (ev2 rfl)) ?_
      refine zab rfl rfl rfl (op_and rfl (ev1 rfl) (ev3 rfl id)) ?_
      refine zab rfl rfl rfl (zac (.inl rfl) (ev1 rfl)) ?_
      refine zai (gd_t rfl rfl rfl) rfl rfl rfl (zac (.inl rfl) (ev1 rfl)) ?_
      refine zai (gd_t rfl rfl rfl) rfl rfl rfl (op_eql rfl (ev2 rfl) (ev1 rfl)) ?_
      refine zai (gd_t rfl rfl rfl) rfl rfl rfl (zac (.inl rfl) (ev1 rfl)) ?_
      refine zai (gd_t rfl rfl rfl) rfl rfl rfl (op_gtr rfl (ev2 rfl) (ev1 rfl)) ?_
      refine zai (gd_t rfl rfl rfl) rfl rfl rfl (op_eqb rfl un4 (ev2 rfl) (ev2 rfl)) ?_
      refine zab rfl rfl rfl (op_and rfl (ev1 rfl) (ev3 rfl id)) ?_
      refine zab rfl rfl rfl (zac (.inl rfl) (ev1 rfl)) ?_
      refine zai (gd_t rfl rfl rfl) rfl rfl rfl (zac (.inl rfl) (ev1 rfl)) ?_
      refine zai (gd_t rfl rfl rfl) rfl rfl rfl (op_gtr rfl (ev2 rfl) (ev1 rfl)) ?_
      refine zai (gd_t rfl rfl rfl) rfl rfl rfl (zac (.inl rfl) (ev2 rfl)) ?_
      refine zai (gd_ff rfl rfl rfl) rfl rfl rfl (zac (.inl rfl) (ev1 rfl)) ?_
      refine zai (gd_ff rfl rfl rfl) rfl rfl rfl (op_eql rfl (ev2 rfl) (ev1 rfl)) ?_
      refine zai (gd_t rfl rfl rfl) rfl rfl rfl (op_or rfl (ev2 rfl) (ev2 rfl)) ?_
      refine zab rfl rfl rfl (op_and rfl (ev1 rfl) (ev3 rfl id)) ?_
      refine zab rfl rfl rfl (zac (.inl rfl) (ev1 rfl)) ?_
      refine zai (gd_t rfl rfl rfl) rfl rfl rfl (zac (.inl rfl) (ev1 rfl)) ?_
      refine zai (gd_t rfl rfl rfl) rfl rfl rfl (zac (.inl rfl) (ev1 rfl)) ?_
      refine zai (gd_t rfl rfl rfl) rfl rfl rfl (zac (.inl rfl) (ev1 rfl)) ?_
      refine zai (gd_t rfl rfl rfl) rfl rfl rfl (op_len rfl sl23 (ev2 rfl)) ?_
      refine zai (gd_t rfl rfl rfl) rfl rfl rfl (op_sltk (j := (x.take 700).length) rfl sl23 (ev2 rfl) (bd_some (ev2 rfl)) (fun _ => by omega) (fun _ => by omega) (fun _ => rfl)) ?_
      refine zai (gd_t rfl rfl rfl) rfl rfl rfl (zaj [] [] [] rfl (ev1 rfl) (ec (ev2 rfl) (ec (ev2 rfl) en)) rfl rfl (equalB (x.take 700) (x.take (x.take 700).length)) rfl rfl rfl rfl rfl rfl) ?_
      refine zab rfl rfl rfl (op_and rfl (ev1 rfl) (ev3 rfl id)) ?_
      refine zab rfl rfl rfl (zac (.inr rfl) (ev1 rfl)) ?_
      refine zae ?_
      refine dwp_ret ?_
      refine kend0 (rs1 rfl (rv_t rfl)) rfl ?_
      rw [tk_len]
      simp
      omega
end Go.Proofs.Ytcbfnbfhlofkiaa
