/- Values that came in and hold no address (numbers, bools, strings, and structs and arrays of these): their cells, opened; slices of such.  but the kernel's look at the type; From a contract to the statement: a law whose call returns true whatever its arguments read as; with listed variables, too.  but the kernel's look at the program; Arguments whose elements are slices themselves, opened, as deep as their types go.  but the kernel's look at the types; Arguments that are structs, or slices of such, whose fields hold slices, opened.  but the kernel's look at the types; Structs of data that stay: boxed; arrays in them, looked into and cut; What is known of a value, told otherwise: nil slices as rows of nothing, plain structs as lists of cells; tiles, and canvases as they show; runs of equals, and their bytes; tiles that are read, one behind the other; tiles that are read, all; canvases that. No condition. -/
import Derived.Test.YtcbfnbfhlofkiaaQ4
import Derived.Test.YtcbfnbfhlofkiaaRows
namespace Go.Proofs.Ytcbfnbfhlofkiaa
set_option linter.unusedVariables false
set_option linter.unusedSimpArgs false
open Go.RowKit Go.Deep
section
variable {H : Type} {enc : TypeId × Value → H} {P : Program} {w : World} {base : Nat} {spare : Nat → Bool} {held : Bool}
/-- a row in memory: each element's cells -/
def rowsAt {α : Type} (w : World) (b off sz : Nat) (en : α → List Value) (l : List α) : Prop :=
  b < w.heap.size ∧ ∀ k (h : k < l.length) j, j < sz → w.cell? ⟨b, off + k * sz + j, none⟩ = (en l[k])[j]?
/-- a slice's place and length, and what it holds -/
def rowV {α : Type} (W : World) (a0 : Option Addr) (len sz : Nat) (en : α → List Value) (l : List α) : Prop := len = l.length ∧ (l = [] ∨ ∃ b off, a0 = some ⟨b, off, none⟩ ∧ rowsAt W b off sz en l)
theorem list_of' {α : Type} (n : Nat) (p : Nat → α → Prop) (h : ∀ i, i < n → ∃ c, p i c) : ∃ l : List α, l.length = n ∧ ∀ i (hi : i < l.length), p i l[i] := by
  induction n with
  | zero => exact ⟨[], rfl, fun i hi => absurd hi (by simp)⟩
  | succ n ih =>
    obtain ⟨l, hl, hp⟩ := ih fun i hi => h i (by omega)
    obtain ⟨c, hc⟩ := h n (by omega)
    refine ⟨l ++ [c], by simp [hl], fun i hi => ?_⟩
    by_cases e : i < l.length
    · rw [List.getElem_append_left e]; exact hp i e
    · have : i = n := by simp [hl] at hi; omega
      subst this
      simp [List.getElem_append_right (show l.length ≤ i by omega), hl, hc]
/-- A slice whose elements hold no address, opened. -/
theorem open_row {α : Type} {t e : TypeId} {ps : List Prim} (f : Nat) (en : α → List Value) (ok : α → Prop) (hP : ∀ cs, fitsP ps cs → ∃ a, ok a ∧ cs = en a) (ht : P.underlying t = some (.slice e)) (hf : flatT P f e = some ps) (hc : P.cellsOf e = ps.length) (hpos : 0 < ps.length)
    {a0 : Option Addr} {len cap : Nat} {d : DataW H} {p : List MemPlace} (h : DataW.Trod enc P w base spare held t (.slice a0 len cap) d p) :
    ∃ l, rowV w a0 len ps.length en l ∧ (∀ a ∈ l, ok a) ∧ len ≤ cap ∧ cap ≤ maxLen ∧ (a0 = none → cap = 0) := by
  obtain ⟨fuel, hfu⟩ := h
  rcases open_slice ht hfu with ⟨hcs, hx⟩ | ⟨a, len', cap', m, n, D, Pl, hcs, _, hl, hm, hmm, hx, hel⟩
  · simp [Value.cells] at hcs
    obtain ⟨rfl, rfl, rfl⟩ := hcs
    exact ⟨[], ⟨rfl, .inl rfl⟩, by simp, Nat.le_refl _, Nat.zero_le _, fun _ => rfl⟩
  · simp [Value.cells] at hcs
    obtain ⟨rfl, rfl, rfl⟩ := hcs
    have hlm : len ≤ m := by rw [hmm]; split <;> omega
    rw [hc] at hel
    obtain ⟨l, hll, hp⟩ := list_of' len (fun i (c : α) => ok c ∧ w.cells? base (a.add (i * ps.length)) ps.length = some (en c)) (by
      intro i hi
      obtain ⟨cs, h1, h2⟩ := hel i (by omega)
      obtain ⟨c, hok, rfl⟩ := hP cs (flat_trod f _ _ _ _ _ hf h2)
      exact ⟨c, hok, h1⟩)
    refine ⟨l, ⟨hll.symm, ?_⟩, ?_, hl, hm, fun e => by cases e⟩
    · by_cases h0 : l = []
      · exact .inl h0
      · right
        have hlp : 0 < l.length := List.length_pos_iff.2 h0
        obtain ⟨b, off, spot⟩ := a
        have hg := World.cells?_some (hp 0 hlp).2
        have hc0 := hg.2.2 0 hpos
        rw [List.getElem?_eq_getElem (by rw [hg.2.1]; exact hpos)] at hc0
        replace hc0 : ∃ v0, w.cell? (((⟨b, off, spot⟩ : Addr).add (0 * ps.length)).add 0) = some v0 := ⟨_, hc0⟩
        obtain ⟨v0, hc0⟩ := hc0
        have hs := World.cell?_spot hc0
        have hspot : spot = none := by simpa [Addr.add] using hs
        subst hspot
        have hpl : ∀ o k, (⟨b, o, none⟩ : Addr).add k = ⟨b, o + k, none⟩ := fun o k => by simp [Addr.add]
        refine ⟨b, off, rfl, ?_, fun k hk j hj => ?_⟩
        · rw [hpl, hpl] at hc0
          exact World.block_lt_of_cell? _ _ hc0
        · have := (World.cells?_some (hp k hk).2).2.2 j hj
          rw [hpl, hpl] at this
          exact this
    · intro c hcm
      obtain ⟨i, hi, rfl⟩ := List.getElem_of_mem hcm
      exact (hp i hi).1
end
end Go.Proofs.Ytcbfnbfhlofkiaa
namespace Go.Proofs.Ytcbfnbfhlofkiaa
set_option linter.unusedVariables false
set_option linter.unusedSimpArgs false
open Go.ChangeShapes Go.WideShapes Go.ChangeAt Go.RowKit Go.Joins Go.Deep
set_option maxRecDepth 100000
section
variable {H : Type} {enc : TypeId × Value → H} {w : World} {base b0 : Nat} {r : Reach} {spare : Nat → Bool} {held : Bool} {v : Value} {d : DataW H} {p : List MemPlace}
theorem rep_row {α : Type} {W : World} {a : Option Addr} {n cap sz : Nat} {en : α → List Value} {l : List α} (hx : rowV W a n sz en l) (hc : n ≤ cap) (hm : cap ≤ maxLen) (hnil : a = none → cap = 0) (hen : ∀ a, (en a).length = sz) : Rep (st0 W) (.slf sz l.length (l.flatMap en)) (.slice a n cap) := by
  obtain ⟨rfl, hx⟩ := hx
  refine .slf (flat_len hen l) hc hm hnil ?_
  rcases hx with rfl | ⟨b, off, rfl, hlt, hcell⟩
  · exact .inl rfl
  · refine .inr ⟨b, off, rfl, hlt, fun j u hj => ?_⟩
    show W.cell? ⟨b, off + j, none⟩ = some u
    have hjl : j < l.length * sz := by rw [← flat_len hen l]; exact (List.getElem?_eq_some_iff.1 hj).1
    have hsz : 0 < sz := by
      rcases Nat.eq_zero_or_pos sz with e | e
      · rw [e] at hjl; omega
      · exact e
    have hq : j / sz < l.length := (Nat.div_lt_iff_lt_mul hsz).2 hjl
    have hr := Nat.mod_lt j hsz
    have e : j = j / sz * sz + j % sz := by rw [Nat.mul_comm]; exact (Nat.div_add_mod j sz).symm
    rw [e, flat_cell hen hq hr] at hj
    have := hcell (j / sz) hq (j % sz) hr
    rw [hj] at this
    rw [e, ← Nat.add_assoc]
    exact this
end
end Go.Proofs.Ytcbfnbfhlofkiaa
namespace Go.Proofs.Ytcbfnbfhlofkiaa
set_option linter.unusedVariables false
set_option linter.unusedSimpArgs false
open Go.ChangeShapes Go.WideShapes Go.ChangeAt Go.RowKit Go.Joins Go.Deep
/-- cells that read as data, side by side, at the start -/
def Opens (P : Program) (w : World) {α : Type} (t : TypeId) (mk : α → List D) (ok : α → Prop) : Prop :=
  ∀ (H : Type) (enc : TypeId × Value → H) (base : Nat) (spare : Nat → Bool) (held : Bool) (n : Nat) (cs : List Value) (x : DataW H × List MemPlace), DataW.trod enc P w base spare held n t cs = some x → ∃ a, ok a ∧ Reps (st0 w) (mk a) cs
section
variable {P : Program} {w : World}
theorem reps_app2 {s : St} {d1 d2 : List D} {v1 v2 : List Value} (h1 : Reps s d1 v1) (h2 : Reps s d2 v2) : Reps s (d1 ++ d2) (v1 ++ v2) := by
  refine ⟨by simp [h1.1, h2.1], fun j d v hd hv => ?_⟩
  by_cases hj : j < d1.length
  · rw [List.getElem?_append_left hj] at hd
    rw [List.getElem?_append_left (by rw [h1.1]; exact hj)] at hv
    exact h1.2 j d v hd hv
  · rw [List.getElem?_append_right (by omega)] at hd
    rw [List.getElem?_append_right (by rw [h1.1]; omega), h1.1] at hv
    exact h2.2 _ d v hd hv
/-- a type that holds no address -/
theorem opens_flat {α : Type} {t : TypeId} {ps : List Prim} (f : Nat) (en : α → List Value) (ok : α → Prop) (hP : ∀ cs, fitsP ps cs → ∃ a, ok a ∧ cs = en a) (hf : flatT P f t = some ps) : Opens P w t (fun a => (en a).map .val) ok := by
  intro H enc base spare held n cs x hx
  obtain ⟨a, hok, rfl⟩ := hP cs (flat_trod f _ _ _ _ _ hf hx)
  refine ⟨a, hok, by simp, fun j d v hd hv => ?_⟩
  rw [List.getElem?_map, hv] at hd
  obtain rfl := Option.some.inj hd
  exact .val v
/-- a slice whose elements hold no address -/
theorem opens_row {α : Type} {t e : TypeId} {ps : List Prim} (f : Nat) (en : α → List Value) (ok : α → Prop) (hP : ∀ cs, fitsP ps cs → ∃ a, ok a ∧ cs = en a) (ht : P.underlying t = some (.slice e)) (hf : flatT P f e = some ps) (hc : P.cellsOf e = ps.length) (hpos : 0 < ps.length)
    (hen : ∀ a, (en a).length = ps.length) : Opens P w t (fun l : List α => [.slf ps.length l.length (l.flatMap en)]) (fun l => ∀ a ∈ l, ok a) := by
  intro H enc base spare held n cs x hx
  have hone : ∃ a len cap, cs = [.slice a len cap] := by
    rcases open_slice ht hx with ⟨hcs, _⟩ | ⟨a, len', cap', _, _, _, _, hcs, _⟩
    · exact ⟨_, _, _, hcs⟩
    · exact ⟨_, _, _, hcs⟩
  obtain ⟨a, len, cap, rfl⟩ := hone
  obtain ⟨l, h1, h2, h3, h4, h5⟩ := open_row f en ok hP ht hf hc hpos (d := x.1) (p := x.2) (show DataW.Trod enc P w base spare held t (.slice a len cap) x.1 x.2 from ⟨n, hx⟩)
  exact ⟨l, h2, reps_cons (rep_row h1 h3 h4 h5 hen) reps_nil⟩
end
end Go.Proofs.Ytcbfnbfhlofkiaa
namespace Go.Proofs.Ytcbfnbfhlofkiaa
set_option linter.unusedVariables false
set_option linter.unusedSimpArgs false
open Go.ChangeShapes Go.WideShapes Go.ChangeAt Go.RowKit Go.Joins Go.Deep
/-- fields that read as data, from cell o on -/
def OpensF (P : Program) (w : World) {α : Type} (fs : List Field) (o tot : Nat) (mk : α → List D) (ok : α → Prop) : Prop :=
  ∀ (H : Type) (enc : TypeId × Value → H) (base : Nat) (spare : Nat → Bool) (held : Bool) (n : Nat) (cs : List Value), cs.length = tot → (∀ f, f ∈ fs → ∃ x, DataW.trod enc P w base spare held n f.type ((cs.drop f.offset).take (P.cellsOf f.type)) = some x) → ∃ a, ok a ∧ Reps (st0 w) (mk a) (cs.drop o)
section
variable {P : Program} {w : World}
theorem opensF_nil {tot : Nat} : OpensF P w ([] : List Field) tot tot (fun _ : Unit => []) (fun _ => True) := fun H enc base spare held n cs hl _ =>
  ⟨(), trivial, by rw [List.drop_eq_nil_of_le (by omega)]; exact ⟨rfl, fun j d v h => by simp at h⟩⟩
theorem opensF_cons {α β : Type} {f : Field} {fs : List Field} {o k tot : Nat} {mk : α → List D} {mk' : β → List D} {ok : α → Prop} {ok' : β → Prop} (ho : f.offset = o) (hk : P.cellsOf f.type = k) (h : Opens P w f.type mk ok) (h' : OpensF P w fs (o + k) tot mk' ok') :
    OpensF P w (f :: fs) o tot (fun a : α × β => mk a.1 ++ mk' a.2) (fun a => ok a.1 ∧ ok' a.2) := by
  intro H enc base spare held n cs hl hall
  obtain ⟨x, hx⟩ := hall f (List.mem_cons_self ..)
  rw [ho, hk] at hx
  obtain ⟨a, h1, h2⟩ := h H enc base spare held n _ x hx
  obtain ⟨b, h3, h4⟩ := h' H enc base spare held n cs hl fun g hg => hall g (List.mem_cons_of_mem _ hg)
  refine ⟨(a, b), ⟨h1, h3⟩, ?_⟩
  have e : cs.drop o = (cs.drop o).take k ++ cs.drop (o + k) := by rw [← List.drop_drop, List.take_append_drop]
  rw [e]
  exact reps_app2 h2 h4
theorem opens_struct {α : Type} {t : TypeId} {fs : Array Field} {tot : Nat} {mk : α → List D} {ok : α → Prop} (hu : P.underlying t = some (.struct fs)) (ht : P.cellsOf t = tot) (h : OpensF P w fs.toList 0 tot mk ok) : Opens P w t mk ok := by
  intro H enc base spare held n cs x hx
  obtain ⟨xs, m, _, _, hl, hlen, hf⟩ := DataW.trod_struct hu hx
  obtain ⟨a, h1, h2⟩ := h H enc base spare held m cs (by rw [hl, ht]) fun f hfm => by
    obtain ⟨i, hi, rfl⟩ := List.getElem_of_mem hfm
    have hi' : i < fs.size := by simpa using hi
    have h3 := hf i fs[i] (Array.getElem?_eq_getElem hi')
    rw [List.getElem?_eq_getElem (by omega)] at h3
    exact ⟨_, by simpa using h3⟩
  exact ⟨a, h1, by simpa using h2⟩
theorem opens_map {α β : Type} {t : TypeId} {mk : α → List D} {ok : α → Prop} {mk' : β → List D} {ok' : β → Prop} (g : α → β) (h : Opens P w t mk ok) (hm : ∀ a, mk a = mk' (g a)) (ho : ∀ a, ok a → ok' (g a)) : Opens P w t mk' ok' := by
  intro H enc base spare held n cs x hx
  obtain ⟨a, h1, h2⟩ := h H enc base spare held n cs x hx
  exact ⟨g a, ho a h1, by rw [← hm]; exact h2⟩
end
set_option maxRecDepth 100000
/-- a struct among the arguments that opens -/
theorem open_agg {H : Type} {enc : TypeId × Value → H} {w : World} {base : Nat} {spare : Nat → Bool} {held : Bool} {α : Type} {t : TypeId} {fs : Array Field} {mk : α → List D} {ok : α → Prop} {v : Value} {d : DataW H} {p : List MemPlace} {r : Reach} {b0 : Nat} (hu : Try.prog.underlying t = some (.struct fs)) (ho : Opens Try.prog w t mk ok) (hv : Value.okWide Try.prog w r b0 t v) (h : DataW.Trod enc Try.prog w base spare held t v d p) :
    ∃ a, ok a ∧ Rep (st0 w) (.agg (mk a)) v := by
  obtain ⟨cs, rfl, hsz⟩ := okWide_struct hu hv
  obtain ⟨fuel, hfu⟩ := h
  obtain ⟨a, hok, hr⟩ := ho H enc base spare held _ _ _ hfu
  have h5 := Rep.agg (s := st0 w) (l := mk a) (vs := cs.toList) hr.1 hr.2
  rw [Array.toArray_toList] at h5
  exact ⟨a, hok, h5⟩
end Go.Proofs.Ytcbfnbfhlofkiaa
namespace Go.Proofs.Ytcbfnbfhlofkiaa
set_option linter.unusedVariables false
set_option linter.unusedSimpArgs false
open Go.RowKit
section
variable {P : Program} {pc : Bool} {o : Oper} {F : Fr} {M : List Blk}
end
theorem upd_app : ∀ (a b : List (Nat × Blk)) (M : List Blk), upd M (a ++ b) = upd (upd M a) b
  | [], _, _ => rfl
  | (i, k) :: a, b, M => by rw [List.cons_append, upd, upd, upd_app a b]
/-- what an operation makes is given up at once: it stays -/
theorem DOp.giveA {P : Program} {pc : Bool} {o : Oper} {F : Fr} {M : List Blk} {fp : List Nat} {j sz n : Nat} {T : TypeId} {L : List Value} (wr : List (Nat × Blk)) (h : DOp P pc o F M fp (.arr j) (wr ++ [(j, .arr T sz n L)])) (hj : M[j]? = some .hole) (hf : fp.contains j = true) : DOp P pc o F M fp (.slf sz n L) (wr ++ [(j, .gone)]) := by
  intro hp a s hok hops hfp
  refine (h hp a s hok hops hfp).map fun s' v ho' ⟨e1, e2⟩ => ?_
  have hjl : j < s.M.length := by
    have h1 := hfp j (by simpa using hf)
    rw [hj] at h1
    exact (List.getElem?_eq_some_iff.1 h1).1
  have hM : s'.M[j]? = some (.arr T sz n L) := by
    rw [e1, upd_app]
    show ((upd s.M wr).set j _)[j]? = _
    rw [List.getElem?_set_self (by rw [upd_len]; exact hjl)]
  obtain ⟨I', t1, r1⟩ := tr_giveA ho' hM e2
  refine ⟨⟨s'.β, I', s'.M.set j .gone, s'.w⟩, rfl, t1, ?_, r1⟩
  show s'.M.set j .gone = _
  rw [e1, upd_app, upd_app]
  show ((upd s.M wr).set j _).set j .gone = (upd s.M wr).set j .gone
  rw [List.set_set]
theorem DOp.giveA2 {P : Program} {pc : Bool} {o : Oper} {F : Fr} {M : List Blk} {fp : List Nat} {i j sz n : Nat} {T : TypeId} {L : List Value} (h : DOp P pc o F M fp (.arr j) [(i, .gone), (j, .arr T sz n L)]) (hj : M[j]? = some .hole) (hf : fp.contains j = true) : DOp P pc o F M fp (.slf sz n L) [(i, .gone), (j, .gone)] := DOp.giveA [(i, .gone)] h hj hf
section
variable {P : Program} {s0 : St} {n : Cx}
end
section
variable {P : Program} {s0 : St} {n : Cx}
end
end Go.Proofs.Ytcbfnbfhlofkiaa
namespace Go.Proofs.Ytcbfnbfhlofkiaa
set_option linter.unusedVariables false
set_option linter.unusedSimpArgs false
open Go.RowKit
theorem Wk.slf0 (sz : Nat) : Wk (.val (.slice none 0 0)) (.slf sz 0 []) := fun s v hr => by
  cases hr with
  | val => exact .slf (by simp) (Nat.le_refl _) (Nat.zero_le _) (fun _ => rfl) (.inl rfl)
/-- .. of an operand -/
theorem evwk {pc : Bool} {F : Fr} {x : Operand} {d d' : D} (h : Ev pc F x d) (hw : Wk d d') : Ev pc F x d' := by
  obtain ⟨d0, e1, e2⟩ := h
  exact ⟨d0, e1, fun s v hp hr => hw _ _ (e2 s v hp hr)⟩
section
variable {P : Program} {s0 : St} {n : Cx}
end
section
variable {P : Program} {pc : Bool} {o : Oper} {F : Fr} {M : List Blk} {T : TypeId} {x : Operand}
end
end Go.Proofs.Ytcbfnbfhlofkiaa
namespace Go.Proofs.Ytcbfnbfhlofkiaa
set_option maxRecDepth 4000
set_option linter.unusedVariables false
set_option linter.unusedSimpArgs false
open Go.RowKit
set_option maxRecDepth 4000 in
set_option maxHeartbeats 1000000 in
theorem equalT (l r : List TL) : DFun Try.prog 51 [.slf 256 l.length (l.flatMap tc), .slf 256 r.length (r.flatMap tc)] [] (.val (.bool (decide (l = r)))) [] := by
  refine dcalls_go (N := 26) 0 (by kernel_rfl) Try.func51 rfl rfl rfl (by simp only [fr0, Nat.zero_add, Nat.reduceAdd]; exact rfl) rfl fun s0 hs0 => ?_
  refine dwp_len (t := 0) rfl fun hl0 hL0 => ?_
  refine dwp_len (t := 1) rfl fun hl1 hL1 => ?_
  refine zaf ?_
  refine zad ?_
  refine zab rfl rfl rfl (zac (.inr rfl) (ev1 rfl)) ?_
  refine zae ?_
  refine zaf ?_
  refine zaf ?_
  refine zad ?_
  refine zab rfl rfl rfl (zac (.inl rfl) (ev1 rfl)) ?_
  refine zab rfl rfl rfl (op_len rfl sl22 (ev1 rfl)) ?_
  refine zab rfl rfl rfl (zac (.inl rfl) (ev1 rfl)) ?_
  refine zab rfl rfl rfl (op_len rfl sl22 (ev1 rfl)) ?_
  refine zab rfl rfl rfl (op_neq rfl (ev1 rfl) (ev1 rfl)) ?_
  refine zae ?_
  refine dwp_cond rfl (fun c1 => ?_) (fun c1 => ?_)
  · try simp only [decide_eq_true_eq, decide_eq_false_iff_not, beq_iff_eq, bne_iff_ne, beq_eq_false_iff_ne, bne_eq_false_iff_eq, Bool.not_eq_true', Bool.not_eq_false', Bool.and_eq_true, Bool.or_eq_true, Bool.or_eq_false_iff, ne_eq, Decidable.not_not, Int.not_lt, Int.not_le] at c1
    refine zaf ?_
    refine zad ?_
    refine zab rfl rfl rfl (zac (.inr rfl) (ev1 rfl)) ?_
    refine zae ?_
    refine dwp_ret ?_
    refine kend0 (rs1 rfl (rv_t rfl)) rfl ?_
    have hne : l ≠ r := fun e => by subst e; exact c1 rfl
    rw [decide_eq_false hne]
  · try simp only [decide_eq_true_eq, decide_eq_false_iff_not, beq_iff_eq, bne_iff_ne, beq_eq_false_iff_ne, bne_eq_false_iff_eq, Bool.not_eq_true', Bool.not_eq_false', Bool.and_eq_true, Bool.or_eq_true, Bool.or_eq_false_iff, ne_eq, Decidable.not_not, Int.not_lt, Int.not_le] at c1
    have hlen : l.length = r.length := by omega
    refine dwp_skip ?_
    refine zaf ?_
    refine zaf ?_
    refine zad ?_
    refine zab rfl rfl rfl (zac (.inl rfl) (ev1 rfl)) ?_
    refine zab rfl rfl rfl (op_len rfl sl22 (ev1 rfl)) ?_
    refine zab rfl rfl rfl (zac (.inl rfl) (ev1 rfl)) ?_
    refine zae ?_
    refine dwp_block ?_
    refine dwp_loopS ⟨hs0, rfl⟩ (α := Nat) (fun k => [(13, .val (.int .i64 (k : Int)))]) [(0, _), (1, _), (12, _)] (fun k => []) [] (fun k => k ≤ l.length ∧ l.take k = r.take k) (fun k => l.length - k) 0 [] (by simp) rfl ⟨rfl, rfl, rfl, trivial⟩ ⟨rfl, trivial⟩ trivial ?_
    intro k hx
    simp only [upd, za, zaa, List.cons_append, List.nil_append]
    obtain ⟨hk, he⟩ := hx
    refine zaf ?_
    refine zad ?_
    refine zab rfl rfl rfl (op_lss rfl (ev1 rfl) (ev1 rfl)) ?_
    refine zae ?_
    refine zaf ?_
    refine dwp_cond rfl (fun c2 => ?_) (fun c2 => ?_)
    · try simp only [decide_eq_true_eq, decide_eq_false_iff_not, beq_iff_eq, bne_iff_ne, beq_eq_false_iff_ne, bne_eq_false_iff_eq, Bool.not_eq_true', Bool.not_eq_false', Bool.and_eq_true, Bool.or_eq_true, Bool.or_eq_false_iff, ne_eq, Decidable.not_not, Int.not_lt, Int.not_le] at c2
      refine dwp_skip ?_
      refine zaf ?_
      refine dwp_block ?_
      refine zaf ?_
      refine zad ?_
      refine zab rfl rfl rfl (zac (.inl rfl) (ev1 rfl)) ?_
      refine zab rfl rfl rfl (zac (.inr rfl) (ev1 rfl)) ?_
      refine zae ?_
      refine zaf ?_
      refine dwp_draw [([], []), ([], []), ([], []), ([], []), ([], []), ([], []), ([], []), ([], []), ([], [])] mixed (by kernel_rfl) ?_
      refine zag rfl rfl (zac (.inl rfl) (ev1 rfl)) ?_
      refine zag rfl rfl (zac (.inl rfl) (ev1 rfl)) ?_
      refine zag rfl rfl (op_ixsr (j := k) rfl sl22 (ev1 rfl) (ev1 rfl) tc_len (by decide) (by omega) (by omega)) ?_
      refine zag rfl rfl (op_ldwd rfl tb29 (ev1 rfl) (tc_len _)) ?_
      refine zag rfl rfl (zac (.inl rfl) (ev1 rfl)) ?_
      refine zag rfl rfl (zac (.inl rfl) (ev1 rfl)) ?_
      refine zag rfl rfl (op_ixsr (j := k) rfl sl22 (ev1 rfl) (ev1 rfl) tc_len (by decide) (by omega) (by omega)) ?_
      refine zag rfl rfl (op_ldwd rfl tb29 (ev1 rfl) (tc_len _)) ?_
      refine zag rfl rfl (op_ner eq29 rfl gd29 tb29 (ev1 rfl) (ev1 rfl)) ?_
      refine lex_nil ?_
      refine dwp_cond rfl (fun c2 => ?_) (fun c2 => ?_)
      · have c3 : l[k] ≠ r[k] := by simpa using c2
        refine zaf ?_
        refine zad ?_
        refine zab rfl rfl rfl (zac (.inr rfl) (ev1 rfl)) ?_
        refine zae ?_
        refine dwp_ret ?_
        refine kend0 (rs1 rfl (rv_t rfl)) rfl ?_
        have hne : l ≠ r := fun e => by subst e; exact c3 rfl
        rw [decide_eq_false hne]
      · have c3 : l[k] = r[k] := by simpa using c2
        refine dwp_skip ?_
        refine zad ?_
        refine zab rfl rfl rfl (op_add' rfl (ev1 rfl) (ev1 rfl) (fun _ => IntWalk.i64_in _ (by omega))) ?_
        refine zab rfl rfl rfl (zac (.inl rfl) (ev1 rfl)) ?_
        refine zae ?_
        refine ⟨k + 1, [], ⟨by omega, by rw [List.take_succ_eq_append_getElem (by omega), List.take_succ_eq_append_getElem (by omega), he, c3]⟩, by simp only []; omega, rfl, ⟨rfl, rfl, rfl, rfl, trivial⟩, trivial⟩
    · try simp only [decide_eq_true_eq, decide_eq_false_iff_not, beq_iff_eq, bne_iff_ne, beq_eq_false_iff_ne, bne_eq_false_iff_eq, Bool.not_eq_true', Bool.not_eq_false', Bool.and_eq_true, Bool.or_eq_true, Bool.or_eq_false_iff, ne_eq, Decidable.not_not, Int.not_lt, Int.not_le] at c2
      refine dwp_exit ?_
      refine zaf ?_
      refine zad ?_
      refine zab rfl rfl rfl (zac (.inr rfl) (ev1 rfl)) ?_
      refine zae ?_
      refine dwp_ret ?_
      refine kend0 (rs1 rfl (rv_t rfl)) rfl ?_
      have e : l = r := by
        have h := he
        rw [List.take_of_length_le (by omega), List.take_of_length_le (by omega)] at h
        exact h
      rw [decide_eq_true e]
set_option maxRecDepth 4000 in
set_option maxHeartbeats 1000000 in
theorem cloneT (l : List TL) (h : l.length ≤ 5000) : DFun Try.prog 9 [.slf 256 l.length (l.flatMap tc)] [] (.arr 0) [.arr 29 256 l.length (l.flatMap tc)] := by
  refine dcalls_go (N := 8) 0 (by kernel_rfl) Try.func9 rfl rfl rfl (by simp only [fr0, Nat.zero_add, Nat.reduceAdd]; exact rfl) rfl fun s0 hs0 => ?_
  refine dwp_len (t := 0) rfl fun hl0 hL0 => ?_
  refine zaf ?_
  refine zad ?_
  refine zab rfl rfl rfl (zac (.inr rfl) (ev1 rfl)) ?_
  refine zae ?_
  refine zaf ?_
  refine zaf ?_
  refine zad ?_
  refine zab rfl rfl rfl (zac (.inl rfl) (ev1 rfl)) ?_
  refine walk_nil? rfl rfl rfl rfl sl22 (ev1 rfl) fun nb4 hnb4 => ?_
  refine zae ?_
  refine dwp_cond rfl (fun c1 => ?_) (fun c1 => ?_)
  · try simp only [decide_eq_true_eq, decide_eq_false_iff_not, beq_iff_eq, bne_iff_ne, beq_eq_false_iff_ne, bne_eq_false_iff_eq, Bool.not_eq_true', Bool.not_eq_false', Bool.and_eq_true, Bool.or_eq_true, Bool.or_eq_false_iff, ne_eq, Decidable.not_not, Int.not_lt, Int.not_le] at c1
    refine zaf ?_
    refine zad ?_
    refine zab rfl rfl rfl (zac (.inr rfl) (ev1 rfl)) ?_
    refine zae ?_
    refine dwp_adopt 2 29 256 rfl rfl rfl ?_
    refine dwp_ret ?_
    refine kend [0] (rs1 rfl (rv_t rfl)) rfl rfl ?_ ⟨?_, trivial⟩
    rfl
    exact (by obtain ⟨h1, h2⟩ := hnb4 c1; simp_all [MFits, vwB])
  · try simp only [decide_eq_true_eq, decide_eq_false_iff_not, beq_iff_eq, bne_iff_ne, beq_eq_false_iff_ne, bne_eq_false_iff_eq, Bool.not_eq_true', Bool.not_eq_false', Bool.and_eq_true, Bool.or_eq_true, Bool.or_eq_false_iff, ne_eq, Decidable.not_not, Int.not_lt, Int.not_le] at c1
    refine dwp_skip ?_
    refine zaf ?_
    refine zah 2 (by simp only [holes, List.cons_append, List.nil_append]; exact rfl) ?_
    refine zad ?_
    refine walk_w rfl rfl rfl (op_bsa (ps := []) 0 rfl sl22 zr29 rfl vn rfl (by decide) (by decide) rfl) (by simp only [upd, za, zaa]; exact rfl) ?_
    refine zab rfl rfl rfl (zac (.inl rfl) (ev1 rfl)) ?_
    refine walk_w rfl rfl rfl (op_app (j := 1) rfl sl22 zr29 rfl (ev1 rfl) (ev1 rfl) src_slf rfl rfl (fun _ => flat_oc (fun t => flat_oc (fun _ => rfl) t.l) l) (fun _ => ⟨by omega, by omega⟩)) (by simp only [upd, za, zaa]; exact rfl) ?_
    refine zab rfl rfl rfl (zac (.inr rfl) (ev1 rfl)) ?_
    refine zae ?_
    refine dwp_ret ?_
    refine kend [1] (rs1 rfl (rv_t rfl)) rfl rfl ?_ ⟨?_, trivial⟩
    rfl
    simp [vwB]
theorem cloneT_f (l : List TL) (h : l.length ≤ 5000) : DFun Try.prog 9 [.slf 256 l.length (l.flatMap tc)] [] (.slf 256 l.length (l.flatMap tc)) [] := freeze (cloneT l h) rfl
set_option maxRecDepth 4000 in
set_option maxHeartbeats 1000000 in
theorem alike_d (w h w2 h2 : Int) (ts us : List TL) : DFun Try.prog 30 [shD w h ts, shD w2 h2 us] [] (.val (.bool (decide (w = w2 ∧ h = h2 ∧ ts = us)))) [] := by
  refine dcalls_go (N := 24) 0 (by kernel_rfl) Try.func30 rfl rfl rfl (by simp only [fr0, Nat.zero_add, Nat.reduceAdd]; exact rfl) rfl fun s0 hs0 => ?_
  refine zaf ?_
  refine zah 2 (by simp only [holes, List.cons_append, List.nil_append]; exact rfl) ?_
  refine zad ?_
  refine walk_w rfl rfl rfl (op_boxam 0 rfl (ev1 rfl) rfl) (by simp only [upd, za, zaa]; exact rfl) ?_
  refine walk_w rfl rfl rfl (op_boxam 1 rfl (ev1 rfl) rfl) (by simp only [upd, za, zaa]; exact rfl) ?_
  refine zab rfl rfl rfl (zac (.inr rfl) (ev1 rfl)) ?_
  refine zae ?_
  refine zaf ?_
  refine zad ?_
  refine zab rfl rfl rfl (op_fa rfl fo41_0 (ev1 rfl)) ?_
  refine zab rfl rfl rfl (op_ldm rfl tb3 (ev1 rfl) rfl rfl) ?_
  refine zab rfl rfl rfl (op_fa rfl fo41_0 (ev1 rfl)) ?_
  refine zab rfl rfl rfl (op_ldm rfl tb3 (ev1 rfl) rfl rfl) ?_
  refine zab rfl rfl rfl (op_eql rfl (ev1 rfl) (ev1 rfl)) ?_
  refine zab rfl rfl rfl (zac (.inl rfl) (ev1 rfl)) ?_
  refine zai (gd_t rfl rfl rfl) rfl rfl rfl (op_fa rfl fo41_1 (ev1 rfl)) ?_
  refine zai (gd_t rfl rfl rfl) rfl rfl rfl (op_ldm rfl tb3 (ev2 rfl) rfl rfl) ?_
  refine zai (gd_t rfl rfl rfl) rfl rfl rfl (op_fa rfl fo41_1 (ev1 rfl)) ?_
  refine zai (gd_t rfl rfl rfl) rfl rfl rfl (op_ldm rfl tb3 (ev2 rfl) rfl rfl) ?_
  refine zai (gd_t rfl rfl rfl) rfl rfl rfl (op_eql rfl (ev2 rfl) (ev2 rfl)) ?_
  refine zab rfl rfl rfl (op_and rfl (ev1 rfl) (ev3 rfl id)) ?_
  refine zab rfl rfl rfl (zac (.inl rfl) (ev1 rfl)) ?_
  refine zai (gd_t rfl rfl rfl) rfl rfl rfl (op_fa rfl fo41_2 (ev1 rfl)) ?_
  refine zai (gd_t rfl rfl rfl) rfl rfl rfl (op_ldm rfl tb22 (ev2 rfl) rfl rfl) ?_
  refine zai (gd_t rfl rfl rfl) rfl rfl rfl (op_fa rfl fo41_2 (ev1 rfl)) ?_
  refine zai (gd_t rfl rfl rfl) rfl rfl rfl (op_ldm rfl tb22 (ev2 rfl) rfl rfl) ?_
  refine zai (gd_t rfl rfl rfl) rfl rfl rfl (zaj [] [] [] rfl (ev1 rfl) (ec (ev2 rfl) (ec (ev2 rfl) en)) rfl rfl (equalT _ _) rfl rfl rfl rfl rfl rfl) ?_
  refine zab rfl rfl rfl (op_and rfl (ev1 rfl) (ev3 rfl id)) ?_
  refine zab rfl rfl rfl (zac (.inr rfl) (ev1 rfl)) ?_
  refine zae ?_
  refine dwp_ret ?_
  refine kend0 (rs1 rfl (rv_t rfl)) rfl ?_
  rw [D.val.injEq, Value.bool.injEq, Bool.eq_iff_iff]
  simp [and_assoc]
end Go.Proofs.Ytcbfnbfhlofkiaa
namespace Go.Proofs.Ytcbfnbfhlofkiaa
set_option maxRecDepth 4000
set_option linter.unusedVariables false
set_option linter.unusedSimpArgs false
open Go.RowKit
def rdTs (kn : List TL → TL) : Nat → List TL → List Int → Option (List TL × List Int)
  | 0, acc, b => some (acc, b)
  | n + 1, acc, b => if b.head? = some 0 then rdTs kn n (acc ++ [kn acc]) (b.drop 1) else match rdT b with
    | some x => if x.1 = kn acc then none else rdTs kn n (acc ++ [x.1]) x.2
    | none => none
theorem rdTs_back (kn : List TL → TL) : ∀ (ts acc : List TL) (more : List Int), rdTs kn ts.length acc (tilesB kn acc ts ++ more) = some (acc ++ ts, more)
  | [], acc, more => by rw [List.append_nil]; rfl
  | t :: ts, acc, more => by
    have ih := rdTs_back kn ts (acc ++ [t]) more
    rw [List.append_assoc] at ih
    rw [List.length_cons, rdTs, tilesB, List.append_assoc]
    by_cases e : t = kn acc
    · rw [if_pos e]
      have hz : (([0] : List Int) ++ (tilesB kn (acc ++ [t]) ts ++ more)).head? = some 0 := rfl
      rw [if_pos hz, ← e]
      exact ih
    · rw [if_neg e]
      obtain ⟨n, hn, cs, he⟩ := tileB_first t
      have h0 : ¬ (tileB t ++ (tilesB kn (acc ++ [t]) ts ++ more)).head? = some (0 : Int) := by
        rw [he]
        intro h
        have := Option.some.inj (show some (n : Int) = some (0 : Int) from h)
        omega
      rw [if_neg h0, rdT_iff.2 rfl]
      simp only
      rw [if_neg e]
      exact ih
end Go.Proofs.Ytcbfnbfhlofkiaa
namespace Go.Proofs.Ytcbfnbfhlofkiaa
set_option maxRecDepth 4000
set_option linter.unusedVariables false
set_option linter.unusedSimpArgs false
open Go.RowKit
attribute [local irreducible] padT rdP rdN mayG
theorem rdNs_eq (kn : List TL → TL) (B : List Int) : ∀ (n : Nat) (acc : List TL) (p : Nat), p ≤ B.length → rdTs kn n acc (B.drop p) = (rdNs kn B n acc p).map fun x => (x.1, B.drop x.2)
  | 0, _, _, _ => rfl
  | n + 1, acc, p, h => by
    have hz : (B.drop p).head? = some 0 ↔ zrB B p = true := by
      rw [zrB_iff]
      by_cases hp : p < B.length
      · rw [drop_one hp]
        simp [hp]
      · rw [List.drop_eq_nil_of_le (by omega)]
        simp
        omega
    rw [rdTs, rdNs]
    by_cases hc : zrB B p = true
    · rw [if_pos (hz.2 hc), if_pos hc, List.drop_drop]
      exact rdNs_eq kn B n _ (p + 1) (zrB_iff.1 hc).1
    · rw [if_neg (fun e => hc (hz.1 e)), if_neg hc, rdN_T h]
      cases hx : rdN B p with
      | none => rfl
      | some x =>
        obtain ⟨l, q⟩ := x
        simp only [Option.map_some]
        by_cases hk : padT l = kn acc
        · rw [if_pos hk, if_pos hk]; rfl
        · rw [if_neg hk, if_neg hk]; exact rdNs_eq kn B n _ q (rdN_le hx).1
theorem rdNs_len {kn : List TL → TL} {B : List Int} : ∀ {n : Nat} {acc : List TL} {p : Nat} {ts : List TL} {q : Nat}, p ≤ B.length → rdNs kn B n acc p = some (ts, q) → ts.length = acc.length + n ∧ p ≤ q ∧ q ≤ B.length
  | 0, acc, p, ts, q, hp, h => by cases h; exact ⟨rfl, Nat.le_refl _, hp⟩
  | n + 1, acc, p, ts, q, hp, h => by
    by_cases hz : zrB B p = true
    · obtain ⟨h1, h2, h3⟩ := rdNs_len (zrB_iff.1 hz).1 (rdNs_z (Nat.succ_pos n) hz h)
      exact ⟨by rw [h1, List.length_append]; simp; omega, by omega, h3⟩
    · obtain ⟨l, q', h0, hne⟩ := rdNs_some (Nat.succ_pos n) hz h
      obtain ⟨g1, g2, _⟩ := rdN_le h0
      obtain ⟨h1, h2, h3⟩ := rdNs_len g1 (rdNs_t (Nat.succ_pos n) hz h0 hne h)
      exact ⟨by rw [h1, List.length_append]; simp; omega, by omega, h3⟩
end Go.Proofs.Ytcbfnbfhlofkiaa
namespace Go.Proofs.Ytcbfnbfhlofkiaa
set_option maxRecDepth 4000
set_option linter.unusedVariables false
set_option linter.unusedSimpArgs false
open Go.RowKit
attribute [local irreducible] padT rdP rdN mayG
set_option maxRecDepth 4000 in
set_option maxHeartbeats 1000000 in
theorem there_k (a b : Int) (old : List TL) (us : List TL) (hk : us.length < old.length) : DFun Try.prog 58 [.val (.int .i64 (us.length : Int)), .loc 0 0] [.mix 80 [.loc 1 0], .mix 41 [.val (.int .i64 a), .val (.int .i64 b), .slf 256 old.length (old.flatMap tc)]] (.val (.agg (tc (thereK old us)).toArray)) [.mix 80 [.loc 1 0], .mix 41 [.val (.int .i64 a), .val (.int .i64 b), .slf 256 old.length (old.flatMap tc)]] := by
  refine dcalls_go (N := 11) 2 (by kernel_rfl) Try.func58 rfl rfl rfl (by simp only [fr0, Nat.zero_add, Nat.reduceAdd]; exact rfl) rfl fun s0 hs0 => ?_
  refine zaf ?_
  refine zah 1 (by simp only [holes, List.cons_append, List.nil_append]; exact rfl) ?_
  refine zad ?_
  refine walk_w rfl rfl rfl (op_alloc 2 rfl zr29 rfl) (by simp only [upd, za, zaa]; exact rfl) ?_
  refine zae ?_
  refine zaf ?_
  refine zad ?_
  refine zab rfl rfl rfl (op_ldm rfl tb80 (ev1 rfl) rfl rfl) ?_
  refine zab rfl rfl rfl (op_nc rfl (ev1 rfl) (fun s v h => by cases h; exact ⟨_, rfl⟩)) ?_
  refine zab rfl rfl rfl (op_fa rfl fo41_2 (ev1 rfl)) ?_
  refine zab rfl rfl rfl (op_ldm rfl tb22 (ev1 rfl) rfl rfl) ?_
  refine zab rfl rfl rfl (zac (.inl rfl) (ev1 rfl)) ?_
  refine zab rfl rfl rfl (op_ixsr (j := us.length) rfl sl22 (ev1 rfl) (ev1 rfl) tc_len (by decide) (by omega) (by omega)) ?_
  refine zab rfl rfl rfl (op_ldwd rfl tb29 (ev1 rfl) (tc_len _)) ?_
  refine walk_s rfl rfl (op_stwa rfl tb29 (ev1 rfl) (ev1 rfl) rfl (tc_len _) (tc_oc _) ((tc_len _).trans (tc_len _).symm)) (by simp only [upd, za, zaa]; exact rfl) ?_
  refine zae ?_
  refine dwp_ret ?_
  refine kend [0, 1] (rs1 rfl (rv_w tb29 rfl rfl (tc_len _))) rfl rfl ?_ ⟨rfl, rfl, trivial⟩
  rw [thereK_at hk]
set_option maxRecDepth 4000 in
set_option maxHeartbeats 1000000 in
theorem tiles_t (B : List Int) (hB : B.length ≤ 4000000000000000000) (hi : isB B) (w h : Int) (n : Nat) (hm : mayS w h = true) (hn : w * h = (n : Int)) (p0 : Nat) (hp0 : p0 ≤ B.length) (a b : Int) (old : List TL) (ho : n ≤ old.length) (ts : List TL) (q : Nat) (h0 : rdNs (thereK old) B n [] p0 = some (ts, q)) : DFun Try.prog 46 [.loc 0 0, .fn (.func 58) [] [.loc 1 0]] [.mix 71 [.val (.int .i64 w), .val (.int .i64 h), .val (.slice none 0 0), .slf 1 (B).length ((B).flatMap u8V), .val (.int .i64 ((p0 : Nat) : Int))], .mix 80 [.loc 2 0], .mix 41 [.val (.int .i64 a), .val (.int .i64 b), .slf 256 old.length (old.flatMap tc)]] (.tup []) [.mix 71 [.val (.int .i64 w), .val (.int .i64 h), .arr 3, .slf 1 (B).length ((B).flatMap u8V), .val (.int .i64 ((q : Nat) : Int))], .mix 80 [.loc 2 0], .mix 41 [.val (.int .i64 a), .val (.int .i64 b), .slf 256 old.length (old.flatMap tc)], .arr 29 256 (ts).length ((ts).flatMap tc)] := by
  have hb := mul_in hm
  refine dcalls_go (N := 28) 3 (by kernel_rfl) Try.func46 rfl rfl rfl (by simp only [fr0, Nat.zero_add, Nat.reduceAdd]; exact rfl) rfl fun s0 hs0 => ?_
  refine zaf ?_
  refine zad ?_
  refine zab rfl rfl rfl (zac (.inl rfl) (ev1 rfl)) ?_
  refine zab rfl rfl rfl (op_mkf rfl (ec (ev1 rfl) en) en) ?_
  refine zab rfl rfl rfl (zac (.inr rfl) (ev1 rfl)) ?_
  refine zae ?_
  refine zaf ?_
  refine dwp_adoptc (l' := [.val (.int .i64 w), .val (.int .i64 h), .arr 3, .slf 1 (B).length ((B).flatMap u8V), .val (.int .i64 (p0 : Int))]) 0 2 29 256 rfl rfl rfl rfl (by simp only [List.cons_append, List.nil_append, za, zaa]; exact rfl) ?_
  refine dwp_reb 3 reb_arr rfl rfl (by simp only [List.cons_append, List.nil_append, za, zaa, List.length_cons, List.length_nil, Nat.zero_add, Nat.reduceAdd]; exact rfl) ?_
  refine dwp_draw [([], []), ([], []), ([], []), ([], []), ([0], []), ([], []), ([], []), ([], []), ([], []), ([0], []), ([], []), ([], [])] mixed (by kernel_rfl) ?_
  refine zag rfl rfl (zac (.inl rfl) (ev1 rfl)) ?_
  refine zag rfl rfl (op_nc rfl (ev1 rfl) (fun s v h => by cases h; exact ⟨_, rfl⟩)) ?_
  refine zag rfl rfl (op_fa rfl fo71_0 (ev1 rfl)) ?_
  refine zag rfl rfl (op_fa rfl fo41_0 (ev1 rfl)) ?_
  refine zag rfl rfl (op_ldm rfl tb3 (ev1 rfl) rfl rfl) ?_
  refine zag rfl rfl (zac (.inl rfl) (ev1 rfl)) ?_
  refine zag rfl rfl (op_nc rfl (ev1 rfl) (fun s v h => by cases h; exact ⟨_, rfl⟩)) ?_
  refine zag rfl rfl (op_fa rfl fo71_0 (ev1 rfl)) ?_
  refine zag rfl rfl (op_fa rfl fo41_1 (ev1 rfl)) ?_
  refine zag rfl rfl (op_ldm rfl tb3 (ev1 rfl) rfl rfl) ?_
  refine zag rfl rfl (op_mul' rfl (ev1 rfl) (ev1 rfl) (fun _ => IntWalk.i64_in _ (by omega))) ?_
  refine zag rfl rfl (zac (.inl rfl) (ev1 rfl)) ?_
  refine lex_nil ?_
  refine dwp_block ?_
  refine dwp_loopS ⟨hs0, rfl⟩ (α := List TL × Nat) (fun x => [(19, .val (.int .i64 (x.1.length : Int)))]) [(1, _), (4, _), (18, _)] (fun x => [(0, .mix 71 [.val (.int .i64 w), .val (.int .i64 h), .arr 3, .slf 1 (B).length ((B).flatMap u8V), .val (.int .i64 ((x.2 : Nat) : Int))]), (3, .arr 29 256 (x.1).length ((x.1).flatMap tc))]) [.hole, _, _, .hole] (fun x => x.1.length ≤ n ∧ x.2 ≤ B.length ∧ rdNs (thereK old) B (n - x.1.length) x.1 x.2 = some (ts, q)) (fun x => n - x.1.length) ([], p0) [0, 1, 2, 3] (⟨Nat.zero_le _, hp0, h0⟩) rfl ⟨rfl, rfl, rfl, trivial⟩ ⟨rfl, trivial⟩ ⟨rfl, rfl, rfl, rfl, trivial⟩ ?_
  intro x hx
  simp only [upd, za, zaa, List.cons_append, List.nil_append]
  obtain ⟨us, p⟩ := x
  obtain ⟨hul, hp, hrd⟩ := hx
  dsimp only at hul hp hrd ⊢
  refine zaf ?_
  refine zad ?_
  refine zab rfl rfl rfl (op_lss rfl (ev1 rfl) (ev1 rfl)) ?_
  refine zae ?_
  refine zaf ?_
  refine dwp_cond rfl (fun c1 => ?_) (fun c1 => ?_)
  · try simp only [decide_eq_true_eq, decide_eq_false_iff_not, beq_iff_eq, bne_iff_ne, beq_eq_false_iff_ne, bne_eq_false_iff_eq, Bool.not_eq_true', Bool.not_eq_false', Bool.and_eq_true, Bool.or_eq_true, Bool.or_eq_false_iff, ne_eq, Decidable.not_not, Int.not_lt, Int.not_le] at c1
    have hlt : us.length < n := by omega
    refine dwp_skip ?_
    refine zaf ?_
    refine dwp_block ?_
    refine zaf ?_
    refine zad ?_
    refine zab rfl rfl rfl (zac (.inl rfl) (ev1 rfl)) ?_
    refine zab rfl rfl rfl (zac (.inr rfl) (ev1 rfl)) ?_
    refine zae ?_
    by_cases hz : zrB B p = true
    · refine zah 1 (by simp only [holes, List.cons_append, List.nil_append]; exact rfl) ?_
      refine zad ?_
      refine zab rfl rfl rfl (zac (.inl rfl) (ev1 rfl)) ?_
      refine zab rfl rfl rfl (zac (.inl rfl) (ev1 rfl)) ?_
      refine zab rfl rfl rfl (zac (.inl rfl) (ev1 rfl)) ?_
      refine walk_w rfl rfl rfl (zaj [1, 2] [] [] rfl (ev1 rfl) (ec (ev1 rfl) en) rfl rfl (there_k a b old us (by omega)) rfl rfl rfl rfl rfl rfl) (by simp only [upd, za, zaa]; exact rfl) ?_
      refine walk_w rfl rfl rfl (zaj [0, 3] [] [4] rfl (ev1 rfl) (ec (ev1 rfl) en) rfl rfl (next_z B hB w h us (by omega) hi ((thereK old) us) p hp (zrB_iff.1 hz)) rfl rfl rfl rfl rfl rfl) (by simp only [upd, za, zaa]; exact rfl) ?_
      refine zae ?_
      refine zad ?_
      refine zab rfl rfl rfl (op_add' rfl (ev1 rfl) (ev1 rfl) (fun _ => IntWalk.i64_in _ (by omega))) ?_
      refine zab rfl rfl rfl (zac (.inl rfl) (ev1 rfl)) ?_
      refine zae ?_
      refine ⟨(us ++ [(thereK old) us], p + 1), [0, 1, 2, 4], ⟨by rw [List.length_append]; exact hlt, (zrB_iff.1 hz).1, by rw [List.length_append]; exact rdNs_z (n := n - us.length) (by omega) hz hrd⟩, by simp only [List.length_append, List.length_cons, List.length_nil]; omega, rfl, ⟨by rw [List.length_append]; rfl, rfl, rfl, rfl, trivial⟩, ⟨rfl, rfl, rfl, rfl, trivial⟩⟩
    · obtain ⟨l, q1, hl0, hne⟩ := rdNs_some (n := n - us.length) (by omega) hz hrd
      refine zah 1 (by simp only [holes, List.cons_append, List.nil_append]; exact rfl) ?_
      refine zad ?_
      refine zab rfl rfl rfl (zac (.inl rfl) (ev1 rfl)) ?_
      refine zab rfl rfl rfl (zac (.inl rfl) (ev1 rfl)) ?_
      refine zab rfl rfl rfl (zac (.inl rfl) (ev1 rfl)) ?_
      refine walk_w rfl rfl rfl (zaj [1, 2] [] [] rfl (ev1 rfl) (ec (ev1 rfl) en) rfl rfl (there_k a b old us (by omega)) rfl rfl rfl rfl rfl rfl) (by simp only [upd, za, zaa]; exact rfl) ?_
      refine walk_w rfl rfl rfl (zaj [0, 3] [] [4] rfl (ev1 rfl) (ec (ev1 rfl) en) rfl rfl (next_t B hB w h us (by omega) hi ((thereK old) us) p hp (fun e => hz (zrB_iff.2 e)) l q1 hl0 hne) rfl rfl rfl rfl rfl rfl) (by simp only [upd, za, zaa]; exact rfl) ?_
      refine zae ?_
      refine zad ?_
      refine zab rfl rfl rfl (op_add' rfl (ev1 rfl) (ev1 rfl) (fun _ => IntWalk.i64_in _ (by omega))) ?_
      refine zab rfl rfl rfl (zac (.inl rfl) (ev1 rfl)) ?_
      refine zae ?_
      refine ⟨(us ++ [padT l], q1), [0, 1, 2, 4], ⟨by rw [List.length_append]; exact hlt, (rdN_le hl0).1, by rw [List.length_append]; exact rdNs_t (n := n - us.length) (by omega) hz hl0 hne hrd⟩, by simp only [List.length_append, List.length_cons, List.length_nil]; omega, rfl, ⟨by rw [List.length_append]; rfl, rfl, rfl, rfl, trivial⟩, ⟨rfl, rfl, rfl, rfl, trivial⟩⟩
  · try simp only [decide_eq_true_eq, decide_eq_false_iff_not, beq_iff_eq, bne_iff_ne, beq_eq_false_iff_ne, bne_eq_false_iff_eq, Bool.not_eq_true', Bool.not_eq_false', Bool.and_eq_true, Bool.or_eq_true, Bool.or_eq_false_iff, ne_eq, Decidable.not_not, Int.not_lt, Int.not_le] at c1
    refine dwp_exit ?_
    have e0 : n - us.length = 0 := by omega
    rw [e0] at hrd
    have hrd2 : some (us, p) = some (ts, q) := hrd
    cases hrd2
    refine kend [0, 1, 2, 3] (res_none rfl) rfl rfl ?_ ⟨rfl, rfl, rfl, rfl, trivial⟩
    rfl
end Go.Proofs.Ytcbfnbfhlofkiaa
namespace Go.Proofs.Ytcbfnbfhlofkiaa
set_option maxRecDepth 4000
set_option linter.unusedVariables false
set_option linter.unusedSimpArgs false
open Go.RowKit
attribute [local irreducible] padT rdP rdN mayG rdNs
set_option maxRecDepth 4000 in
set_option maxHeartbeats 1000000 in
theorem ap1_idle (w h : Int) (us : List TL) (n e : Int) : DDef Try.prog 48 [.loc 0 0, .loc 1 0, .loc 2 0] [.mix 41 [.val (.int .i64 w), .val (.int .i64 h), .arr 3], .flat 3 [.int .i64 n], .flat 33 [.int .i64 e], .arr 29 256 (us).length ((us).flatMap tc)] none none [.mix 41 [.val (.int .i64 w), .val (.int .i64 h), .arr 3], .flat 3 [.int .i64 n], .flat 33 [.int .i64 e], .arr 29 256 (us).length ((us).flatMap tc)] := by
  refine ddef_go (dr := .tup []) (t := 3) (N := 6) 4 (by kernel_rfl) Try.func48 rfl rfl rfl (by simp only [fr0, Nat.zero_add, Nat.reduceAdd]; exact rfl) rfl rfl rfl rfl rfl fun s0 hs0 => ?_
  refine zab rfl rfl rfl (zaj [] [] [] rfl (ev1 rfl) (ec (ev1 rfl) en) rfl rfl (failed_no) rfl rfl rfl rfl rfl rfl) ?_
  refine zae ?_
  refine dwp_if_f rfl (rfl) ?_
  refine dwp_skip ?_
  refine kend [0, 1, 2, 3] (res_none rfl) rfl rfl ?_ ⟨rfl, rfl, rfl, rfl, trivial⟩
  rfl
theorem right_len {w h : Int} {ts : List TL} {n : Nat} (hr : rightB w h ts = true) (hn : w * h = (n : Int)) : n ≤ ts.length := by
  unfold rightB at hr
  rw [Bool.and_eq_true] at hr
  have := of_decide_eq_true hr.2
  omega
set_option maxRecDepth 4000 in
set_option maxHeartbeats 1000000 in
theorem apl_y (B : List Int) (hB : B.length ≤ 4000000000000000000) (hi : isB B) (a b : Int) (old : List TL) (hr : rightB a b old = true) (hw : bAt B 0 = a ∧ bAt B 1 = b) (n : Nat) (hn : a * b = (n : Int)) (h2 : 0 + 2 ≤ B.length) (ts : List TL) (q : Nat) (h0 : rdNs (thereK old) B n [] 2 = some (ts, q)) : DFun Try.prog 26 [.agg [.val (.int .i64 a), .val (.int .i64 b), .slf 256 old.length (old.flatMap tc)], .slf 1 (B).length ((B).flatMap u8V)] [] (.tup [.agg [.val (.int .i64 (bAt B 0)), .val (.int .i64 (bAt B 1)), .arr 0], .val (.int .i64 (q : Nat)), .val (.int .i64 0)]) [.arr 29 256 (ts).length ((ts).flatMap tc)] := by
  obtain ⟨hw1, hw2⟩ := hw
  have hm : mayS (bAt B 0) (bAt B 1) = true := by rw [hw1, hw2]; exact right_may hr
  have hn : bAt B 0 * bAt B 1 = (n : Int) := by rw [hw1, hw2]; exact hn
  have ho : n ≤ old.length := right_len hr (by rw [← hw1, ← hw2]; exact hn)
  refine dcalls_body (N := 41) 0 (by kernel_rfl) Try.func26 rfl rfl rfl (by simp only [fr0, Nat.zero_add, Nat.reduceAdd]; exact rfl) rfl fun s0 hs0 => ?_
  refine dbody_seq rfl hs0 ?_
  refine zah 4 (by simp only [holes, List.cons_append, List.nil_append]; exact rfl) ?_
  refine zad ?_
  refine walk_w rfl rfl rfl (op_boxam 0 rfl (ev1 rfl) rfl) (by simp only [upd, za, zaa]; exact rfl) ?_
  refine walk_w rfl rfl rfl (op_alloc 1 rfl zr41 rfl) (by simp only [upd, za, zaa]; exact rfl) ?_
  refine walk_w rfl rfl rfl (op_alloc 2 rfl zr3 rfl) (by simp only [upd, za, zaa]; exact rfl) ?_
  refine walk_w rfl rfl rfl (op_alloc 3 rfl zr33 rfl) (by simp only [upd, za, zaa]; exact rfl) ?_
  refine zae ?_
  refine dbody_seq rfl hs0 ?_
  refine zaf ?_
  refine zad ?_
  refine zab rfl rfl rfl (op_ldmw rfl tb41 (ev1 rfl) rfl rfl) ?_
  refine zab rfl rfl rfl (zaj [] [] [] rfl (ev1 rfl) (ec (ev1 rfl) en) rfl rfl (ccheck_d a b old) rfl rfl rfl rfl rfl rfl) ?_
  refine zab rfl rfl rfl (zac (.inr rfl) (ev1 rfl)) ?_
  refine zae ?_
  refine zaf ?_
  refine zad ?_
  refine zab rfl rfl rfl (zac (.inl rfl) (ev1 rfl)) ?_
  refine zab rfl rfl rfl (op_neq rfl (ev1 rfl) (ev1 rfl)) ?_
  refine zae ?_
  refine dwp_if_f rfl (by rw [hr]; rfl) ?_
  refine dwp_skip ?_
  refine dbody_defer (l0 := [_]) rfl rfl rfl rfl rfl hs0 ?_
  refine zab rfl rfl rfl (op_mkf rfl en (ec (ev1 rfl) (ec (ev1 rfl) (ec (ev1 rfl) en)))) ?_
  refine zae ⟨_, _, _, 4, ev1 rfl, Nat.le_trans hs0 (by decide), rfl, ?_⟩
  have hs1 : s0.M.length ≤ 4 := Nat.le_trans hs0 (by decide)
  refine dbody_end rfl hs0 ?_
  refine zaf ?_
  refine zah 1 (by simp only [holes, List.cons_append, List.nil_append]; exact rfl) ?_
  refine zad ?_
  refine zab rfl rfl rfl (zac (.inl rfl) (ev1 rfl)) ?_
  refine zab rfl rfl rfl (op_bldD (ps := [(1, .tmp 16)]) rfl fl71 zr71 (ec (ev1 rfl) en) rfl rfl rfl) ?_
  refine walk_w rfl rfl rfl (op_alloc 4 rfl zr71 rfl) (by simp only [upd, za, zaa]; exact rfl) ?_
  refine walk_s rfl rfl (op_stam rfl tb71 (ev1 rfl) (ev1 rfl) rfl rfl rfl rfl) (by simp only [upd, za, zaa]; exact rfl) ?_
  refine zae ?_
  refine zaf ?_
  refine zad ?_
  refine walk_w rfl rfl rfl (zaj [4] [] [] rfl (ev1 rfl) (ec (ev1 rfl) en) rfl rfl (sizes_ok B hB hi n h2 hm hn) rfl rfl rfl rfl rfl rfl) (by simp only [upd, za, zaa]; exact rfl) ?_
  refine zae ?_
  refine zaf ?_
  refine zaf ?_
  refine zad ?_
  refine zab rfl rfl rfl (op_fa rfl fo71_0 (ev1 rfl)) ?_
  refine zab rfl rfl rfl (op_fa rfl fo41_0 (ev1 rfl)) ?_
  refine zab rfl rfl rfl (op_ldm rfl tb3 (ev1 rfl) rfl rfl) ?_
  refine zab rfl rfl rfl (op_fa rfl fo41_0 (ev1 rfl)) ?_
  refine zab rfl rfl rfl (op_ldm rfl tb3 (ev1 rfl) rfl rfl) ?_
  refine zab rfl rfl rfl (op_neq rfl (ev1 rfl) (ev1 rfl)) ?_
  refine zab rfl rfl rfl (zac (.inl rfl) (ev1 rfl)) ?_
  refine zai (gd_f rfl rfl rfl) rfl rfl rfl (op_fa rfl fo71_0 (ev1 rfl)) ?_
  refine zai (gd_f rfl rfl rfl) rfl rfl rfl (op_fa rfl fo41_1 (ev2 rfl)) ?_
  refine zai (gd_f rfl rfl rfl) rfl rfl rfl (op_ldm rfl tb3 (ev2 rfl) rfl rfl) ?_
  refine zai (gd_f rfl rfl rfl) rfl rfl rfl (op_fa rfl fo41_1 (ev1 rfl)) ?_
  refine zai (gd_f rfl rfl rfl) rfl rfl rfl (op_ldm rfl tb3 (ev2 rfl) rfl rfl) ?_
  refine zai (gd_f rfl rfl rfl) rfl rfl rfl (op_neq rfl (ev2 rfl) (ev2 rfl)) ?_
  refine zab rfl rfl rfl (op_or rfl (ev1 rfl) (ev3 rfl id)) ?_
  refine zae ?_
  refine dwp_if_f rfl (by simp; omega) ?_
  refine dwp_skip ?_
  refine zaf ?_
  refine zah 2 (by simp only [holes, List.cons_append, List.nil_append]; exact rfl) ?_
  refine zad ?_
  refine walk_w rfl rfl rfl (zaj [0] [] [5] rfl (ev1 rfl) (ec (ev1 rfl) en) rfl rfl (there_f a b old) rfl rfl rfl rfl rfl rfl) (by simp only [upd, za, zaa]; exact rfl) ?_
  refine walk_w rfl rfl rfl (zaj [4, 5, 0] [] [6] rfl (ev1 rfl) (ec (ev1 rfl) (ec (ev1 rfl) en)) rfl rfl (tiles_t B hB hi (bAt B 0) (bAt B 1) n hm hn 2 h2 a b old ho ts q h0) rfl rfl rfl rfl rfl rfl) (by simp only [upd, za, zaa]; exact rfl) ?_
  refine zae ?_
  refine zaf ?_
  refine dwp_draw [([], []), ([4], []), ([], []), ([4], []), ([1], [1]), ([2], [2]), ([3], [3])] mixed (by kernel_rfl) ?_
  refine zag rfl rfl (op_fa rfl fo71_0 (ev1 rfl)) ?_
  refine zag rfl rfl (op_ldmp rfl tb41 (ev1 rfl) rfl rfl rfl) ?_
  refine zag rfl rfl (op_fa rfl fo71_2 (ev1 rfl)) ?_
  refine zag rfl rfl (op_ldm rfl tb3 (ev1 rfl) rfl rfl) ?_
  refine lex_s rfl rfl (op_stam rfl tb41 (ev1 rfl) (ev1 rfl) rfl rfl rfl rfl) rfl (by simp only [upd, za, zaa]; exact rfl) ?_
  refine lex_s rfl rfl (op_stwi rfl tb3 (ev1 rfl) (ev1 rfl) rfl) rfl (by simp only [upd, za, zaa]; exact rfl) ?_
  refine lex_s rfl rfl (op_stwi rfl tb33 (ev1 rfl) (ev1 rfl) rfl) rfl (by simp only [upd, za, zaa]; exact rfl) ?_
  refine lex_nil ?_
  refine dwp_ret ?_
  refine kdef (dturn_idle [1, 2, 3, 6] [] rfl rfl (ap1_idle _ _ _ _ _) rfl rfl rfl rfl rfl) ?_
  refine kend [6] (rs3 rfl (rv_mw tb41 rfl rfl rfl) (rv_1 tb3 rfl rfl rfl) (rv_1 tb33 rfl rfl rfl)) rfl rfl ?_ ⟨rfl, trivial⟩
  rfl
end Go.Proofs.Ytcbfnbfhlofkiaa
namespace Go.Proofs.Ytcbfnbfhlofkiaa
set_option maxRecDepth 4000
set_option linter.unusedVariables false
set_option linter.unusedSimpArgs false
open Go.RowKit
attribute [local irreducible] runG bytesG posG tileB tilesB
set_option maxRecDepth 4000 in
set_option maxHeartbeats 1000000 in
theorem ptc_n (a b : Int) (old : List TL) (w h : Int) (us : List TL) (hr : (rightB a b old && rightB w h us) = false) : DFun Try.prog 20 [.agg [.val (.int .i64 a), .val (.int .i64 b), .slf 256 old.length (old.flatMap tc)], .agg [.val (.int .i64 w), .val (.int .i64 h), .slf 256 us.length (us.flatMap tc)]] [] (.tup [.val (.slice none 0 0), .val (.int .i64 150)]) [] := by
  refine dcalls_go (N := 30) 0 (by kernel_rfl) Try.func20 rfl rfl rfl (by simp only [fr0, Nat.zero_add, Nat.reduceAdd]; exact rfl) rfl fun s0 hs0 => ?_
  refine zaf ?_
  refine zah 2 (by simp only [holes, List.cons_append, List.nil_append]; exact rfl) ?_
  refine zad ?_
  refine walk_w rfl rfl rfl (op_boxam 0 rfl (ev1 rfl) rfl) (by simp only [upd, za, zaa]; exact rfl) ?_
  refine walk_w rfl rfl rfl (op_boxam 1 rfl (ev1 rfl) rfl) (by simp only [upd, za, zaa]; exact rfl) ?_
  refine zab rfl rfl rfl (zac (.inr rfl) (ev1 rfl)) ?_
  refine zab rfl rfl rfl (zac (.inr rfl) (ev1 rfl)) ?_
  refine zae ?_
  refine zaf ?_
  refine zaf ?_
  refine dwp_draw [([0], []), ([], []), ([1], []), ([], []), ([], []), ([], [])] mixed (by kernel_rfl) ?_
  refine zag rfl rfl (op_ldmw rfl tb41 (ev1 rfl) rfl rfl) ?_
  refine zag rfl rfl (zaj [] [] [] rfl (ev1 rfl) (ec (ev1 rfl) en) rfl rfl (ccheck_d a b old) rfl rfl rfl rfl rfl rfl) ?_
  refine zag rfl rfl (op_ldmw rfl tb41 (ev1 rfl) rfl rfl) ?_
  refine zag rfl rfl (zaj [] [] [] rfl (ev1 rfl) (ec (ev1 rfl) en) rfl rfl (ccheck_d w h us) rfl rfl rfl rfl rfl rfl) ?_
  refine zag rfl rfl (op_max rfl (ev1 rfl) (ev1 rfl)) ?_
  refine zag rfl rfl (zac (.inr rfl) (ev1 rfl)) ?_
  refine lex_nil ?_
  refine zaf ?_
  refine zad ?_
  refine zab rfl rfl rfl (zac (.inl rfl) (ev1 rfl)) ?_
  refine zab rfl rfl rfl (op_neq rfl (ev1 rfl) (ev1 rfl)) ?_
  refine zae ?_
  refine dwp_if_t rfl (by
  cases h1 : rightB a b old <;> cases h2 : rightB w h us <;> first | rfl | (simp [h1, h2] at hr)) ?_
  refine zaf ?_
  refine zad ?_
  refine zab rfl rfl rfl (zac (.inl rfl) (ev1 rfl)) ?_
  refine zab rfl rfl rfl (zac (.inr rfl) (ev1 rfl)) ?_
  refine zab rfl rfl rfl (zac (.inr rfl) (ev1 rfl)) ?_
  refine zae ?_
  refine dwp_ret ?_
  refine kend0 (rs2 rfl (rv_t rfl) (rv_t rfl)) rfl ?_
  cases h1 : rightB a b old <;> cases h2 : rightB w h us <;> first | rfl | (simp [h1, h2] at hr)
set_option maxRecDepth 4000 in
set_option maxHeartbeats 1000000 in
theorem ptc_s (a b : Int) (old : List TL) (w h : Int) (us : List TL) (hr : rightB a b old = true) (hr2 : rightB w h us = true) (hs : ¬ (a = w ∧ b = h)) : DFun Try.prog 20 [.agg [.val (.int .i64 a), .val (.int .i64 b), .slf 256 old.length (old.flatMap tc)], .agg [.val (.int .i64 w), .val (.int .i64 h), .slf 256 us.length (us.flatMap tc)]] [] (.tup [.val (.slice none 0 0), .val (.int .i64 2)]) [] := by
  refine dcalls_go (N := 30) 0 (by kernel_rfl) Try.func20 rfl rfl rfl (by simp only [fr0, Nat.zero_add, Nat.reduceAdd]; exact rfl) rfl fun s0 hs0 => ?_
  refine zaf ?_
  refine zah 2 (by simp only [holes, List.cons_append, List.nil_append]; exact rfl) ?_
  refine zad ?_
  refine walk_w rfl rfl rfl (op_boxam 0 rfl (ev1 rfl) rfl) (by simp only [upd, za, zaa]; exact rfl) ?_
  refine walk_w rfl rfl rfl (op_boxam 1 rfl (ev1 rfl) rfl) (by simp only [upd, za, zaa]; exact rfl) ?_
  refine zab rfl rfl rfl (zac (.inr rfl) (ev1 rfl)) ?_
  refine zab rfl rfl rfl (zac (.inr rfl) (ev1 rfl)) ?_
  refine zae ?_
  refine zaf ?_
  refine zaf ?_
  refine dwp_draw [([0], []), ([], []), ([1], []), ([], []), ([], []), ([], [])] mixed (by kernel_rfl) ?_
  refine zag rfl rfl (op_ldmw rfl tb41 (ev1 rfl) rfl rfl) ?_
  refine zag rfl rfl (zaj [] [] [] rfl (ev1 rfl) (ec (ev1 rfl) en) rfl rfl (ccheck_d a b old) rfl rfl rfl rfl rfl rfl) ?_
  refine zag rfl rfl (op_ldmw rfl tb41 (ev1 rfl) rfl rfl) ?_
  refine zag rfl rfl (zaj [] [] [] rfl (ev1 rfl) (ec (ev1 rfl) en) rfl rfl (ccheck_d w h us) rfl rfl rfl rfl rfl rfl) ?_
  refine zag rfl rfl (op_max rfl (ev1 rfl) (ev1 rfl)) ?_
  refine zag rfl rfl (zac (.inr rfl) (ev1 rfl)) ?_
  refine lex_nil ?_
  refine zaf ?_
  refine zad ?_
  refine zab rfl rfl rfl (zac (.inl rfl) (ev1 rfl)) ?_
  refine zab rfl rfl rfl (op_neq rfl (ev1 rfl) (ev1 rfl)) ?_
  refine zae ?_
  refine dwp_if_f rfl (by rw [hr, hr2]; rfl) ?_
  refine dwp_skip ?_
  refine zaf ?_
  refine zaf ?_
  refine zad ?_
  refine zab rfl rfl rfl (op_fa rfl fo41_0 (ev1 rfl)) ?_
  refine zab rfl rfl rfl (op_ldm rfl tb3 (ev1 rfl) rfl rfl) ?_
  refine zab rfl rfl rfl (op_fa rfl fo41_0 (ev1 rfl)) ?_
  refine zab rfl rfl rfl (op_ldm rfl tb3 (ev1 rfl) rfl rfl) ?_
  refine zab rfl rfl rfl (op_neq rfl (ev1 rfl) (ev1 rfl)) ?_
  refine zab rfl rfl rfl (zac (.inl rfl) (ev1 rfl)) ?_
  refine zai (gd_f rfl rfl rfl) rfl rfl rfl (op_fa rfl fo41_1 (ev1 rfl)) ?_
  refine zai (gd_f rfl rfl rfl) rfl rfl rfl (op_ldm rfl tb3 (ev2 rfl) rfl rfl) ?_
  refine zai (gd_f rfl rfl rfl) rfl rfl rfl (op_fa rfl fo41_1 (ev1 rfl)) ?_
  refine zai (gd_f rfl rfl rfl) rfl rfl rfl (op_ldm rfl tb3 (ev2 rfl) rfl rfl) ?_
  refine zai (gd_f rfl rfl rfl) rfl rfl rfl (op_neq rfl (ev2 rfl) (ev2 rfl)) ?_
  refine zab rfl rfl rfl (op_or rfl (ev1 rfl) (ev3 rfl id)) ?_
  refine zae ?_
  refine dwp_if_t rfl (by simp; omega) ?_
  refine zaf ?_
  refine zad ?_
  refine zab rfl rfl rfl (zac (.inr rfl) (ev1 rfl)) ?_
  refine zab rfl rfl rfl (zac (.inr rfl) (ev1 rfl)) ?_
  refine zae ?_
  refine dwp_ret ?_
  refine kend0 (rs2 rfl (rv_t rfl) (rv_t rfl)) rfl ?_
  rfl
end Go.Proofs.Ytcbfnbfhlofkiaa
namespace Go.Proofs.Ytcbfnbfhlofkiaa
set_option maxRecDepth 4000
set_option linter.unusedVariables false
set_option linter.unusedSimpArgs false
open Go.RowKit
attribute [local irreducible] padT rdP rdN mayG rdNs runG bytesG posG tileB tilesB canvasB patchB
theorem apl_f (B : List Int) (hB : B.length ≤ 4000000000000000000) (hi : isB B) (a b : Int) (old : List TL) (hr : rightB a b old = true) (hw : bAt B 0 = a ∧ bAt B 1 = b) (n : Nat) (hn : a * b = (n : Int)) (h2 : 0 + 2 ≤ B.length) (ts : List TL) (q : Nat) (h0 : rdNs (thereK old) B n [] 2 = some (ts, q)) : DFun Try.prog 26 [.agg [.val (.int .i64 a), .val (.int .i64 b), .slf 256 old.length (old.flatMap tc)], .slf 1 (B).length ((B).flatMap u8V)] [] (.tup [.agg [.val (.int .i64 (bAt B 0)), .val (.int .i64 (bAt B 1)), .slf 256 ts.length (ts.flatMap tc)], .val (.int .i64 (q : Nat)), .val (.int .i64 0)]) [] := freeze (apl_y B hB hi a b old hr hw n hn h2 ts q h0) rfl
set_option maxRecDepth 4000 in
set_option maxHeartbeats 1000000 in
theorem lown_d (a b : Int) (old : List TL)  : DFun Try.prog 17 [.agg [.val (.int .i64 a), .val (.int .i64 b), .slf 256 old.length (old.flatMap tc)]] [] (.agg [.val (.int .i64 a), .val (.int .i64 b), .slf 256 (old.take 17).length ((old.take 17).flatMap tc)]) [] := by
  refine dcalls_go (N := 16) 0 (by kernel_rfl) Try.func17 rfl rfl rfl (by simp only [fr0, Nat.zero_add, Nat.reduceAdd]; exact rfl) rfl fun s0 hs0 => ?_
  refine zaf ?_
  refine zah 2 (by simp only [holes, List.cons_append, List.nil_append]; exact rfl) ?_
  refine zad ?_
  refine walk_w rfl rfl rfl (op_boxam 0 rfl (ev1 rfl) rfl) (by simp only [upd, za, zaa]; exact rfl) ?_
  refine walk_w rfl rfl rfl (op_alloc 1 rfl zr41 rfl) (by simp only [upd, za, zaa]; exact rfl) ?_
  refine zae ?_
  refine zaf ?_
  refine dwp_draw [([], []), ([0], []), ([], []), ([0], []), ([], []), ([0], []), ([], []), ([0], []), ([], []), ([], []), ([], []), ([], []), ([], []), ([1], [1])] mixed (by kernel_rfl) ?_
  refine zag rfl rfl (op_fa rfl fo41_0 (ev1 rfl)) ?_
  refine zag rfl rfl (op_ldm rfl tb3 (ev1 rfl) rfl rfl) ?_
  refine zag rfl rfl (op_fa rfl fo41_1 (ev1 rfl)) ?_
  refine zag rfl rfl (op_ldm rfl tb3 (ev1 rfl) rfl rfl) ?_
  refine zag rfl rfl (op_fa rfl fo41_2 (ev1 rfl)) ?_
  refine zag rfl rfl (op_ldm rfl tb22 (ev1 rfl) rfl rfl) ?_
  refine zag rfl rfl (op_fa rfl fo41_2 (ev1 rfl)) ?_
  refine zag rfl rfl (op_ldm rfl tb22 (ev1 rfl) rfl rfl) ?_
  refine zag rfl rfl (op_len rfl sl22 (ev1 rfl)) ?_
  refine zag rfl rfl (op_min rfl (ev1 rfl) (ev1 rfl)) ?_
  refine zag rfl rfl (op_sltk (j := min old.length 17) rfl sl22 (ev1 rfl) (bd_some (ev1 rfl)) (fun _ => by omega) (fun _ => by omega) tc_len) ?_
  refine zag rfl rfl (zaj [] [] [] rfl (ev1 rfl) (ec (ev1 rfl) en) rfl rfl (cloneT_f (old.take (min old.length 17)) (by rw [List.length_take]; omega)) rfl rfl rfl rfl rfl rfl) ?_
  refine zag rfl rfl (op_bldD (ps := [(0, .tmp 4), (1, .tmp 6), (2, .tmp 14)]) rfl fl41 zr41 (ec (ev1 rfl) (ec (ev1 rfl) (ec (ev1 rfl) en))) rfl rfl rfl) ?_
  refine lex_s rfl rfl (op_stam rfl tb41 (ev1 rfl) (ev1 rfl) rfl rfl rfl rfl) rfl (by simp only [upd, za, zaa]; exact rfl) ?_
  refine lex_nil ?_
  refine dwp_ret ?_
  refine kend0 (rs1 rfl (rv_mw tb41 rfl rfl rfl)) rfl ?_
  rw [tk_min]
end Go.Proofs.Ytcbfnbfhlofkiaa
namespace Go.Proofs.Ytcbfnbfhlofkiaa
set_option maxRecDepth 4000
set_option linter.unusedVariables false
set_option linter.unusedSimpArgs false
open Go.RowKit
theorem isB_app {a b : List Int} (ha : isB a) (hb : isB b) : isB (a ++ b) := fun z hz => (List.mem_append.1 hz).elim (ha z) (hb z)
end Go.Proofs.Ytcbfnbfhlofkiaa
namespace Go.Proofs.Ytcbfnbfhlofkiaa
set_option maxRecDepth 4000
set_option linter.unusedVariables false
set_option linter.unusedSimpArgs false
open Go.RowKit
def tsRng (ts : List TL) : Prop := ∀ t ∈ ts, ∀ c ∈ t.l, c.rng
theorem tilesB_isB {kn : List TL → TL} : ∀ {ts acc : List TL}, tsRng ts → isB (tilesB kn acc ts)
  | [], _, _ => by rw [tilesB_nil]; intro z hz; cases hz
  | t :: ts, acc, h => by
    rw [tilesB]
    refine isB_app ?_ (tilesB_isB fun u hu => h u (List.mem_cons_of_mem _ hu))
    split
    · intro z hz; simp at hz; subst hz; decide
    · exact tileB_isB (h t (List.mem_cons_self ..))
theorem tsRng_take {ts : List TL} (h : tsRng ts) (n : Nat) : tsRng (ts.take n) := fun t ht => h t (List.mem_of_mem_take ht)
theorem right_n {w h : Int} {ts : List TL} (hr : rightB w h ts = true) : w * h = (ts.length : Int) ∧ ts.length ≤ 16 ∧ mayS w h = true ∧ (1 ≤ w ∧ w ≤ 4) ∧ 1 ≤ h ∧ h ≤ 4 := by
  have hm := right_may hr
  have hb := mul_in hm
  have hc := mayS_b hm
  unfold rightB at hr
  rw [Bool.and_eq_true] at hr
  have := of_decide_eq_true hr.2
  exact ⟨by omega, by omega, hm, by omega, by omega⟩
theorem rdNs_back (kn : List TL → TL) (w h : Int) (ts : List TL) (rest : List Int) : rdNs kn ((w :: h :: tilesB kn [] ts) ++ rest) ts.length [] 2 = some (ts, (w :: h :: tilesB kn [] ts).length) := by
  have e := rdNs_eq kn ((w :: h :: tilesB kn [] ts) ++ rest) ts.length [] 2 (by simp)
  have e1 : ((w :: h :: tilesB kn [] ts) ++ rest).drop 2 = tilesB kn [] ts ++ rest := rfl
  rw [e1, rdTs_back] at e
  cases hx : rdNs kn ((w :: h :: tilesB kn [] ts) ++ rest) ts.length [] 2 with
  | none => rw [hx] at e; cases e
  | some x =>
    obtain ⟨l, q⟩ := x
    obtain ⟨_, _, h3⟩ := rdNs_len (by simp) hx
    rw [hx] at e
    have e : some ([] ++ ts, rest) = some (l, ((w :: h :: tilesB kn [] ts) ++ rest).drop q) := e
    obtain ⟨g1, g2⟩ := Prod.mk.inj (Option.some.inj e)
    have := congrArg List.length g2
    rw [List.length_drop] at this
    rw [List.length_append] at h3 this
    rw [show q = (w :: h :: tilesB kn [] ts).length by omega, ← g1]
    rfl
theorem tilesB_same (old : List TL) : ∀ (ts acc : List TL), old = acc ++ ts → (tilesB (thereK old) acc ts).length = ts.length
  | [], _, _ => by rw [tilesB_nil]; rfl
  | t :: ts, acc, h => by
    have hk : thereK old acc = t := by
      rw [thereK_at (by rw [h]; simp)]
      simp [h]
    rw [tilesB, hk, if_pos rfl, List.length_append, tilesB_same old ts (acc ++ [t]) (by rw [h]; simp)]
    simp
    omega
theorem patch_same (a b : Int) (ts : List TL) : (patchB a b ts ts).length = 2 + ts.length := by
  show (a :: b :: tilesB (thereK ts) [] ts).length = _
  rw [List.length_cons, List.length_cons, tilesB_same ts ts [] rfl]
  omega
theorem patch_len (a b : Int) (old ts : List TL) : (patchB a b old ts).length ≤ 2 + ts.length * 320 := by
  have := tilesB_len (thereK old) ts []
  show (a :: b :: tilesB (thereK old) [] ts).length ≤ _
  rw [List.length_cons, List.length_cons]
  omega
theorem patch_isB {a b : Int} {old ts : List TL} (hr : rightB a b ts = true) (h : tsRng ts) : isB (patchB a b old ts) := by
  obtain ⟨_, _, _, h1, h2⟩ := right_n hr
  intro z hz
  rcases List.mem_cons.1 (show z ∈ a :: b :: tilesB (thereK old) [] ts from hz) with rfl | hz
  · omega
  rcases List.mem_cons.1 hz with rfl | hz
  · omega
  exact tilesB_isB h z hz
theorem patch_back (a b : Int) (old ts : List TL) (rest : List Int) : rdNs (thereK old) (patchB a b old ts ++ rest) ts.length [] 2 = some (ts, (patchB a b old ts).length) := rdNs_back (thereK old) a b ts rest
theorem apl_g (a b : Int) (old ts : List TL) (rest : List Int) (hr : rightB a b old = true) (hr2 : rightB a b ts = true) (hg : tsRng ts) (hrest : isB rest) (hl : rest.length ≤ 1000000) :
    DFun Try.prog 26 [.agg [.val (.int .i64 a), .val (.int .i64 b), .slf 256 old.length (old.flatMap tc)], .slf 1 ((patchB a b old ts ++ rest)).length (((patchB a b old ts ++ rest)).flatMap u8V)] [] (.tup [.agg [.val (.int .i64 a), .val (.int .i64 b), .slf 256 ts.length (ts.flatMap tc)], .val (.int .i64 ((patchB a b old ts).length : Nat)), .val (.int .i64 0)]) [] := by
  obtain ⟨h1, h2, _⟩ := right_n hr2
  have h3 := patch_len a b old ts
  exact apl_f (patchB a b old ts ++ rest) (by rw [List.length_append]; omega) (isB_app (patch_isB hr2 hg) hrest) a b old hr ⟨rfl, rfl⟩ ts.length h1 (by rw [List.length_append]; show 0 + 2 ≤ (a :: b :: tilesB (thereK old) [] ts).length + _; rw [List.length_cons, List.length_cons]; omega) ts _ (patch_back a b old ts rest)
end Go.Proofs.Ytcbfnbfhlofkiaa
namespace Go.Proofs.Ytcbfnbfhlofkiaa
set_option maxRecDepth 4000
set_option linter.unusedVariables false
set_option linter.unusedSimpArgs false
open Go.RowKit
open Go.ChangeShapes Go.WideShapes Go.ChangeAt Go.Joins Go.Deep
theorem fits_i64 : ∀ cs, fitsP [.int .i64] cs → ∃ a : Int, (-9223372036854775808 ≤ a ∧ a ≤ 9223372036854775807) ∧ cs = [.int .i64 a]
  | [c0], h => by
    obtain ⟨h0, _⟩ := h
    obtain ⟨a, w, rfl⟩ := fits_prim_i64 h0
    exact ⟨a, w, rfl⟩
  | [], h => by cases h
  | _ :: _ :: _, h => by obtain ⟨_, h⟩ := h; cases h
theorem opens_i64 {w : World} : Opens Try.prog w 3 (fun a : Int => [.val (.int .i64 a)]) (fun a => -9223372036854775808 ≤ a ∧ a ≤ 9223372036854775807) := opens_flat 1 (fun a : Int => [.int .i64 a]) _ fits_i64 (by kernel_rfl)
theorem opens_rowz {α : Type} {w : World} {t e : TypeId} {ps : List Prim} {sz : Nat} (f : Nat) (en : α → List Value) (ok : α → Prop) (hP : ∀ cs, fitsP ps cs → ∃ a, ok a ∧ cs = en a) (ht : Try.prog.underlying t = some (.slice e)) (hf : flatT Try.prog f e = some ps) (hz : ps.length = sz) (hc : Try.prog.cellsOf e = sz) (hpos : 0 < sz)
    (hen : ∀ a, (en a).length = sz) : Opens Try.prog w t (fun l : List α => [.slf sz l.length (l.flatMap en)]) (fun l => ∀ a ∈ l, ok a) := by
  subst hz
  exact opens_row f en ok hP ht hf hc hpos hen
abbrev kT : List Prim := (List.replicate 64 [.int .u8, .int .u8, .int .u8, .int .u8]).flatten
theorem kT_len : kT.length = 256 := by kernel_rfl
theorem opens_tls {w : World} : Opens Try.prog w 22 (fun l : List TL => [.slf 256 l.length (l.flatMap tc)]) (fun l => ∀ x ∈ l, ∀ c ∈ x.l, c.rng) :=
  opens_rowz 4 tc (fun t => ∀ c ∈ t.l, c.rng) fits_tl Try.underlying22 (show flatT Try.prog 4 29 = some kT by kernel_rfl) kT_len (by kernel_rfl) (by decide) tc_len
abbrev shL (a : Int × Int × List TL) : List D := [.val (.int .i64 a.1), .val (.int .i64 a.2.1), .slf 256 a.2.2.length (a.2.2.flatMap tc)]
theorem opens_cv {w : World} : Opens Try.prog w 41 shL (fun a => tsRng a.2.2) :=
  opens_map (fun a : Int × Int × List TL × Unit => (a.1, a.2.1, a.2.2.1)) (opens_struct Try.underlying41 (by kernel_rfl) (opensF_cons (k := 1) rfl (by kernel_rfl) opens_i64 (opensF_cons (k := 1) rfl (by kernel_rfl) opens_i64 (opensF_cons (k := 1) rfl (by kernel_rfl) opens_tls opensF_nil)))) (fun _ => rfl) (fun _ h => h.2.2.1)
end Go.Proofs.Ytcbfnbfhlofkiaa
namespace Go.Proofs.Ytcbfnbfhlofkiaa
set_option maxRecDepth 4000
set_option linter.unusedVariables false
set_option linter.unusedSimpArgs false
open Go.RowKit
attribute [local irreducible] padT rdP rdN mayG rdNs runG bytesG posG tileB tilesB canvasB patchB rightB
set_option maxRecDepth 4000 in
set_option maxHeartbeats 1000000 in
theorem rpatch_d (a b : Int) (xa : List TL) (c d : Int) (xb : List TL) (e f : Int) (xc : List TL) (hga : tsRng xa) (hgb : tsRng xb) (hgc : tsRng xc)  : DFun Try.prog 6 [.agg [.val (.int .i64 a), .val (.int .i64 b), .slf 256 xa.length (xa.flatMap tc)], .agg [.val (.int .i64 c), .val (.int .i64 d), .slf 256 xb.length (xb.flatMap tc)], .agg [.val (.int .i64 e), .val (.int .i64 f), .slf 256 xc.length (xc.flatMap tc)]] [] (.val (.bool true)) [] := by
  have hga := tsRng_take hga 17
  have hgb := tsRng_take hgb 17
  have hgc := tsRng_take hgc 17
  have h77 : isB ([7, 7] : List Int) := by unfold isB; decide
  refine dcalls_go (N := 162) 0 (by kernel_rfl) Try.func6 rfl rfl rfl (by simp only [fr0, Nat.zero_add, Nat.reduceAdd]; exact rfl) rfl fun s0 hs0 => ?_
  refine zaf ?_
  refine zah 3 (by simp only [holes, List.cons_append, List.nil_append]; exact rfl) ?_
  refine zad ?_
  refine walk_w rfl rfl rfl (op_boxam 0 rfl (ev1 rfl) rfl) (by simp only [upd, za, zaa]; exact rfl) ?_
  refine walk_w rfl rfl rfl (op_boxam 1 rfl (ev1 rfl) rfl) (by simp only [upd, za, zaa]; exact rfl) ?_
  refine walk_w rfl rfl rfl (op_boxam 2 rfl (ev1 rfl) rfl) (by simp only [upd, za, zaa]; exact rfl) ?_
  refine zab rfl rfl rfl (zac (.inr rfl) (ev1 rfl)) ?_
  refine zae ?_
  refine zaf ?_
  refine zaf ?_
  refine zad ?_
  refine zab rfl rfl rfl (zaj [] [] [] rfl (ev1 rfl) en rfl rfl (wakes_d) rfl rfl rfl rfl rfl rfl) ?_
  refine zab rfl rfl rfl (op_not rfl (ev1 rfl)) ?_
  refine zae ?_
  refine dwp_if_f rfl (rfl) ?_
  refine dwp_skip ?_
  refine zaf ?_
  refine zah 3 (by simp only [holes, List.cons_append, List.nil_append]; exact rfl) ?_
  refine dwp_draw [([0], []), ([], []), ([1], []), ([], []), ([2], []), ([], []), ([3], [3]), ([4], [4]), ([5], [5]), ([3], [3]), ([4], [4]), ([5], [5])] mixed (by kernel_rfl) ?_
  refine zag rfl rfl (op_ldmw rfl tb41 (ev1 rfl) rfl rfl) ?_
  refine zag rfl rfl (zaj [] [] [] rfl (ev1 rfl) (ec (ev1 rfl) en) rfl rfl (lown_d a b xa) rfl rfl rfl rfl rfl rfl) ?_
  refine zag rfl rfl (op_ldmw rfl tb41 (ev1 rfl) rfl rfl) ?_
  refine zag rfl rfl (zaj [] [] [] rfl (ev1 rfl) (ec (ev1 rfl) en) rfl rfl (lown_d c d xb) rfl rfl rfl rfl rfl rfl) ?_
  refine zag rfl rfl (op_ldmw rfl tb41 (ev1 rfl) rfl rfl) ?_
  refine zag rfl rfl (zaj [] [] [] rfl (ev1 rfl) (ec (ev1 rfl) en) rfl rfl (lown_d e f xc) rfl rfl rfl rfl rfl rfl) ?_
  refine lex_w rfl rfl (op_alloc 3 rfl zr41 rfl) rfl (by simp only [upd, za, zaa]; exact rfl) ?_
  refine lex_w rfl rfl (op_alloc 4 rfl zr41 rfl) rfl (by simp only [upd, za, zaa]; exact rfl) ?_
  refine lex_w rfl rfl (op_alloc 5 rfl zr41 rfl) rfl (by simp only [upd, za, zaa]; exact rfl) ?_
  refine lex_s rfl rfl (op_stam rfl tb41 (ev1 rfl) (ev1 rfl) rfl rfl rfl rfl) rfl (by simp only [upd, za, zaa]; exact rfl) ?_
  refine lex_s rfl rfl (op_stam rfl tb41 (ev1 rfl) (ev1 rfl) rfl rfl rfl rfl) rfl (by simp only [upd, za, zaa]; exact rfl) ?_
  refine lex_s rfl rfl (op_stam rfl tb41 (ev1 rfl) (ev1 rfl) rfl rfl rfl rfl) rfl (by simp only [upd, za, zaa]; exact rfl) ?_
  refine lex_nil ?_
  refine zaf ?_
  by_cases hr : (rightB a b (xa.take 17) && rightB c d (xb.take 17)) = true
  · by_cases hs : c = a ∧ d = b
    · obtain ⟨rfl, rfl⟩ := hs
      rw [Bool.and_eq_true] at hr
      obtain ⟨hrA, hrU⟩ := hr
      obtain ⟨hnA, hnA2, hmay, _⟩ := right_n hrA
      obtain ⟨hnU, hnU2, _⟩ := right_n hrU
      have hln : (xb.take 17).length = (xa.take 17).length := by omega
      have hq1 := patch_len c d (xa.take 17) (xb.take 17)
      have hps := patch_same c d (xa.take 17)
      have hpu := patch_same c d (xb.take 17)
      refine zad ?_
      refine zab rfl rfl rfl (op_ldmw rfl tb41 (ev1 rfl) rfl rfl) ?_
      refine zab rfl rfl rfl (op_ldmw rfl tb41 (ev1 rfl) rfl rfl) ?_
      refine zab rfl rfl rfl (zaj [] [] [] rfl (ev1 rfl) (ec (ev1 rfl) (ec (ev1 rfl) en)) rfl rfl (ptc_f c d (xa.take 17) (xb.take 17) hrA hrU (by omega) (by omega)) rfl rfl rfl rfl rfl rfl) ?_
      refine zab rfl rfl rfl (zac (.inl rfl) (ev1 rfl)) ?_
      refine zab rfl rfl rfl (op_ext rfl (ev1 rfl) rfl) ?_
      refine zab rfl rfl rfl (op_ext rfl (ev1 rfl) rfl) ?_
      refine zab rfl rfl rfl (zac (.inr rfl) (ev1 rfl)) ?_
      refine zab rfl rfl rfl (zac (.inr rfl) (ev1 rfl)) ?_
      refine zae ?_
      refine zaf ?_
      refine zaf ?_
      refine zad ?_
      refine zab rfl rfl rfl (zac (.inl rfl) (ev1 rfl)) ?_
      refine zab rfl rfl rfl (op_neq rfl (ev1 rfl) (ev1 rfl)) ?_
      refine zae ?_
      refine dwp_if_f rfl (rfl) ?_
      refine dwp_skip ?_
      refine zaf ?_
      refine zah 3 (by simp only [holes, List.cons_append, List.nil_append]; exact rfl) ?_
      refine dwp_draw [([3], []), ([], []), ([6], [6]), ([], []), ([6, 7], [6, 7]), ([], []), ([], []), ([], []), ([], []), ([], []), ([8], [8]), ([8], [8]), ([], []), ([], [])] mixed (by kernel_rfl) ?_
      refine zag rfl rfl (op_ldmw rfl tb41 (ev1 rfl) rfl rfl) ?_
      refine zag rfl rfl (zac (.inl rfl) (ev1 rfl)) ?_
      refine lex_w rfl rfl (zaj [] [] [6] rfl (ev1 rfl) (ec (ev1 rfl) en) rfl rfl (cloneB (patchB c d (xa.take 17) (xb.take 17)) (by omega)) rfl rfl rfl rfl rfl rfl) rfl (by simp only [upd, za, zaa]; exact rfl) ?_
      refine zag rfl rfl (op_bs (ps := [(0, .const (.int .u8 7)), (1, .const (.int .u8 7))]) rfl sl23 zr5 rfl (vc (ev1 rfl) (vc (ev1 rfl) vn)) rfl (by decide) (by decide)) ?_
      refine lex_w rfl rfl (((op_app (j := 7) rfl sl23 zr5 rfl (ev1 rfl) (ev1 rfl) src_slf rfl rfl (fun _ => rfl) (fun _ => ⟨by omega, by omega⟩)).giveA2 rfl rfl).cast (d' := .slf 1 (((patchB c d (xa.take 17) (xb.take 17)) ++ [7, 7])).length ((((patchB c d (xa.take 17) (xb.take 17)) ++ [7, 7])).flatMap u8V)) (by rw [List.length_append, List.flatMap_append]; rfl)) rfl (by simp only [upd, za, zaa]; exact rfl) ?_
      refine zag rfl rfl (zaj [] [] [] rfl (ev1 rfl) (ec (ev1 rfl) (ec (ev1 rfl) en)) rfl rfl (apl_g c d (xa.take 17) (xb.take 17) [7, 7] hrA hrU hgb h77 (by decide)) rfl rfl rfl rfl rfl rfl) ?_
      refine zag rfl rfl (zac (.inl rfl) (ev1 rfl)) ?_
      refine zag rfl rfl (op_ext rfl (ev1 rfl) rfl) ?_
      refine zag rfl rfl (op_ext rfl (ev1 rfl) rfl) ?_
      refine zag rfl rfl (op_ext rfl (ev1 rfl) rfl) ?_
      refine lex_w rfl rfl (op_alloc 8 rfl zr41 rfl) rfl (by simp only [upd, za, zaa]; exact rfl) ?_
      refine lex_s rfl rfl (op_stam rfl tb41 (ev1 rfl) (ev1 rfl) rfl rfl rfl rfl) rfl (by simp only [upd, za, zaa]; exact rfl) ?_
      refine zag rfl rfl (zac (.inr rfl) (ev1 rfl)) ?_
      refine zag rfl rfl (zac (.inr rfl) (ev1 rfl)) ?_
      refine lex_nil ?_
      refine zaf ?_
      refine zad ?_
      refine zab rfl rfl rfl (op_ldmw rfl tb41 (ev1 rfl) rfl rfl) ?_
      refine zab rfl rfl rfl (op_ldmw rfl tb41 (ev1 rfl) rfl rfl) ?_
      refine zab rfl rfl rfl (zaj [] [] [] rfl (ev1 rfl) (ec (ev1 rfl) (ec (ev1 rfl) en)) rfl rfl (ptc_f c d (xa.take 17) (xa.take 17) hrA hrA (by omega) (by omega)) rfl rfl rfl rfl rfl rfl) ?_
      refine zab rfl rfl rfl (zac (.inl rfl) (ev1 rfl)) ?_
      refine zab rfl rfl rfl (op_ext rfl (ev1 rfl) rfl) ?_
      refine zab rfl rfl rfl (op_ext rfl (ev1 rfl) rfl) ?_
      refine zab rfl rfl rfl (zac (.inr rfl) (ev1 rfl)) ?_
      refine zab rfl rfl rfl (zac (.inr rfl) (ev1 rfl)) ?_
      refine zae ?_
      refine zaf ?_
      refine zaf ?_
      refine zad ?_
      refine zab rfl rfl rfl (zac (.inl rfl) (ev1 rfl)) ?_
      refine zab rfl rfl rfl (op_neq rfl (ev1 rfl) (ev1 rfl)) ?_
      refine zab rfl rfl rfl (zac (.inl rfl) (ev1 rfl)) ?_
      refine zai (gd_f rfl rfl rfl) rfl rfl rfl (zac (.inl rfl) (ev1 rfl)) ?_
      refine zai (gd_f rfl rfl rfl) rfl rfl rfl (op_neq rfl (ev2 rfl) (ev1 rfl)) ?_
      refine zab rfl rfl rfl (op_or rfl (ev1 rfl) (ev3 rfl id)) ?_
      refine zab rfl rfl rfl (zac (.inl rfl) (ev1 rfl)) ?_
      refine zai (gd_f rfl rfl rfl) rfl rfl rfl (zac (.inl rfl) (ev1 rfl)) ?_
      refine zai (gd_f rfl rfl rfl) rfl rfl rfl (zac (.inl rfl) (ev1 rfl)) ?_
      refine zai (gd_f rfl rfl rfl) rfl rfl rfl (op_len rfl sl23 (ev2 rfl)) ?_
      refine zai (gd_f rfl rfl rfl) rfl rfl rfl (op_neq rfl (ev2 rfl) (ev2 rfl)) ?_
      refine zab rfl rfl rfl (op_or rfl (ev1 rfl) (ev3 rfl id)) ?_
      refine zab rfl rfl rfl (zac (.inl rfl) (ev1 rfl)) ?_
      refine zai (gd_f rfl rfl rfl) rfl rfl rfl (op_ldmw rfl tb41 (ev1 rfl) rfl rfl) ?_
      refine zai (gd_f rfl rfl rfl) rfl rfl rfl (op_ldmw rfl tb41 (ev1 rfl) rfl rfl) ?_
      refine zai (gd_f rfl rfl rfl) rfl rfl rfl (zaj [] [] [] rfl (ev1 rfl) (ec (ev2 rfl) (ec (ev2 rfl) en)) rfl rfl (alike_d c d c d (xb.take 17) (xb.take 17)) rfl rfl rfl rfl rfl rfl) ?_
      refine zai (gd_f rfl rfl rfl) rfl rfl rfl (op_not rfl (ev2 rfl)) ?_
      refine zab rfl rfl rfl (op_or rfl (ev1 rfl) (ev3 rfl id)) ?_
      refine zab rfl rfl rfl (zac (.inl rfl) (ev1 rfl)) ?_
      refine zai (gd_f rfl rfl rfl) rfl rfl rfl (zac (.inl rfl) (ev1 rfl)) ?_
      refine zai (gd_f rfl rfl rfl) rfl rfl rfl (op_len rfl sl23 (ev2 rfl)) ?_
      refine zai (gd_f rfl rfl rfl) rfl rfl rfl (op_fa rfl fo41_2 (ev1 rfl)) ?_
      refine zai (gd_f rfl rfl rfl) rfl rfl rfl (op_ldm rfl tb22 (ev2 rfl) rfl rfl) ?_
      refine zai (gd_f rfl rfl rfl) rfl rfl rfl (op_len rfl sl22 (ev2 rfl)) ?_
      refine zai (gd_f rfl rfl rfl) rfl rfl rfl (op_add' rfl (ev1 rfl) (ev2 rfl) (fun hp => IntWalk.i64_in _ (by first | omega | (simp at hp; omega)))) ?_
      refine zai (gd_f rfl rfl rfl) rfl rfl rfl (op_neq rfl (ev2 rfl) (ev2 rfl)) ?_
      refine zab rfl rfl rfl (op_or rfl (ev1 rfl) (ev3 rfl id)) ?_
      refine zae ?_
      refine dwp_if_f rfl (by simp [hps]) ?_
      refine dwp_skip ?_
      refine zaf ?_
      refine zaf ?_
      refine zad ?_
      refine zab rfl rfl rfl (op_ldmw rfl tb41 (ev1 rfl) rfl rfl) ?_
      refine zab rfl rfl rfl (op_ldmw rfl tb41 (ev1 rfl) rfl rfl) ?_
      refine zab rfl rfl rfl (zaj [] [] [] rfl (ev1 rfl) (ec (ev1 rfl) (ec (ev1 rfl) en)) rfl rfl (ptc_f c d (xb.take 17) (xb.take 17) hrU hrU (by omega) (by omega)) rfl rfl rfl rfl rfl rfl) ?_
      refine zab rfl rfl rfl (zac (.inl rfl) (ev1 rfl)) ?_
      refine zab rfl rfl rfl (op_ext rfl (ev1 rfl) rfl) ?_
      refine zab rfl rfl rfl (op_ext rfl (ev1 rfl) rfl) ?_
      refine zab rfl rfl rfl (zac (.inr rfl) (ev1 rfl)) ?_
      refine zab rfl rfl rfl (zac (.inr rfl) (ev1 rfl)) ?_
      refine zae ?_
      refine zaf ?_
      refine zad ?_
      refine zab rfl rfl rfl (zac (.inl rfl) (ev1 rfl)) ?_
      refine zab rfl rfl rfl (op_neq rfl (ev1 rfl) (ev1 rfl)) ?_
      refine zab rfl rfl rfl (zac (.inl rfl) (ev1 rfl)) ?_
      refine zai (gd_f rfl rfl rfl) rfl rfl rfl (zac (.inl rfl) (ev1 rfl)) ?_
      refine zai (gd_f rfl rfl rfl) rfl rfl rfl (op_len rfl sl23 (ev2 rfl)) ?_
      refine zai (gd_f rfl rfl rfl) rfl rfl rfl (zac (.inl rfl) (ev1 rfl)) ?_
      refine zai (gd_f rfl rfl rfl) rfl rfl rfl (op_len rfl sl23 (ev2 rfl)) ?_
      refine zai (gd_f rfl rfl rfl) rfl rfl rfl (op_neq rfl (ev2 rfl) (ev2 rfl)) ?_
      refine zab rfl rfl rfl (op_or rfl (ev1 rfl) (ev3 rfl id)) ?_
      refine zae ?_
      refine dwp_if_f rfl (by simp [hps, hpu, hln]) ?_
      refine dwp_skip ?_
      refine zaf ?_
      by_cases hr3 : rightB e f (xc.take 17) = true
      · by_cases hs2 : e = c ∧ f = d
        · obtain ⟨rfl, rfl⟩ := hs2
          obtain ⟨hnC, hnC2, _⟩ := right_n hr3
          refine zad ?_
          refine zab rfl rfl rfl (op_ldmw rfl tb41 (ev1 rfl) rfl rfl) ?_
          refine zab rfl rfl rfl (op_ldmw rfl tb41 (ev1 rfl) rfl rfl) ?_
          refine zab rfl rfl rfl (zaj [] [] [] rfl (ev1 rfl) (ec (ev1 rfl) (ec (ev1 rfl) en)) rfl rfl (ptc_f e f (xb.take 17) (xc.take 17) hrU hr3 (by omega) (by omega)) rfl rfl rfl rfl rfl rfl) ?_
          refine zab rfl rfl rfl (zac (.inl rfl) (ev1 rfl)) ?_
          refine zab rfl rfl rfl (op_ext rfl (ev1 rfl) rfl) ?_
          refine zab rfl rfl rfl (op_ext rfl (ev1 rfl) rfl) ?_
          refine zab rfl rfl rfl (zac (.inr rfl) (ev1 rfl)) ?_
          refine zab rfl rfl rfl (zac (.inr rfl) (ev1 rfl)) ?_
          refine zae ?_
          refine zaf ?_
          refine zad ?_
          refine zab rfl rfl rfl (op_ldmw rfl tb41 (ev1 rfl) rfl rfl) ?_
          refine zab rfl rfl rfl (op_ldmw rfl tb41 (ev1 rfl) rfl rfl) ?_
          refine zab rfl rfl rfl (zaj [] [] [] rfl (ev1 rfl) (ec (ev1 rfl) (ec (ev1 rfl) en)) rfl rfl (ptc_f e f (xa.take 17) (xc.take 17) hrA hr3 (by omega) (by omega)) rfl rfl rfl rfl rfl rfl) ?_
          refine zab rfl rfl rfl (zac (.inl rfl) (ev1 rfl)) ?_
          refine zab rfl rfl rfl (op_ext rfl (ev1 rfl) rfl) ?_
          refine zab rfl rfl rfl (op_ext rfl (ev1 rfl) rfl) ?_
          refine zab rfl rfl rfl (zac (.inr rfl) (ev1 rfl)) ?_
          refine zab rfl rfl rfl (zac (.inr rfl) (ev1 rfl)) ?_
          refine zae ?_
          refine zaf ?_
          refine zaf ?_
          refine zad ?_
          refine zab rfl rfl rfl (zac (.inl rfl) (ev1 rfl)) ?_
          refine zab rfl rfl rfl (op_neq rfl (ev1 rfl) (ev1 rfl)) ?_
          refine zab rfl rfl rfl (zac (.inl rfl) (ev1 rfl)) ?_
          refine zai (gd_f rfl rfl rfl) rfl rfl rfl (zac (.inl rfl) (ev1 rfl)) ?_
          refine zai (gd_f rfl rfl rfl) rfl rfl rfl (op_neq rfl (ev2 rfl) (ev1 rfl)) ?_
          refine zab rfl rfl rfl (op_or rfl (ev1 rfl) (ev3 rfl id)) ?_
          refine zae ?_
          refine dwp_if_f rfl (rfl) ?_
          refine dwp_skip ?_
          refine zaf ?_
          refine zah 1 (by simp only [holes, List.cons_append, List.nil_append]; exact rfl) ?_
          refine zad ?_
          refine zab rfl rfl rfl (op_ldmw rfl tb41 (ev1 rfl) rfl rfl) ?_
          refine zab rfl rfl rfl (zac (.inl rfl) (ev1 rfl)) ?_
          refine zab rfl rfl rfl (zaj [] [] [] rfl (ev1 rfl) (ec (ev1 rfl) (ec (ev1 rfl) en)) rfl rfl ((List.append_nil (patchB e f (xb.take 17) (xc.take 17)) ▸ apl_g e f (xb.take 17) (xc.take 17) [] hrU hr3 hgc (fun z hz => by cases hz) (by decide))) rfl rfl rfl rfl rfl rfl) ?_
          refine zab rfl rfl rfl (zac (.inl rfl) (ev1 rfl)) ?_
          refine zab rfl rfl rfl (op_ext rfl (ev1 rfl) rfl) ?_
          refine zab rfl rfl rfl (op_ext rfl (ev1 rfl) rfl) ?_
          refine zab rfl rfl rfl (op_ext rfl (ev1 rfl) rfl) ?_
          refine walk_w rfl rfl rfl (op_alloc 9 rfl zr41 rfl) (by simp only [upd, za, zaa]; exact rfl) ?_
          refine walk_s rfl rfl (op_stam rfl tb41 (ev1 rfl) (ev1 rfl) rfl rfl rfl rfl) (by simp only [upd, za, zaa]; exact rfl) ?_
          refine zab rfl rfl rfl (zac (.inr rfl) (ev1 rfl)) ?_
          refine zab rfl rfl rfl (zac (.inr rfl) (ev1 rfl)) ?_
          refine zae ?_
          refine zaf ?_
          refine zah 1 (by simp only [holes, List.cons_append, List.nil_append]; exact rfl) ?_
          refine zad ?_
          refine zab rfl rfl rfl (op_ldmw rfl tb41 (ev1 rfl) rfl rfl) ?_
          refine zab rfl rfl rfl (zac (.inl rfl) (ev1 rfl)) ?_
          refine zab rfl rfl rfl (zaj [] [] [] rfl (ev1 rfl) (ec (ev1 rfl) (ec (ev1 rfl) en)) rfl rfl ((List.append_nil (patchB e f (xa.take 17) (xc.take 17)) ▸ apl_g e f (xa.take 17) (xc.take 17) [] hrA hr3 hgc (fun z hz => by cases hz) (by decide))) rfl rfl rfl rfl rfl rfl) ?_
          refine zab rfl rfl rfl (zac (.inl rfl) (ev1 rfl)) ?_
          refine zab rfl rfl rfl (op_ext rfl (ev1 rfl) rfl) ?_
          refine zab rfl rfl rfl (op_ext rfl (ev1 rfl) rfl) ?_
          refine zab rfl rfl rfl (op_ext rfl (ev1 rfl) rfl) ?_
          refine walk_w rfl rfl rfl (op_alloc 10 rfl zr41 rfl) (by simp only [upd, za, zaa]; exact rfl) ?_
          refine walk_s rfl rfl (op_stam rfl tb41 (ev1 rfl) (ev1 rfl) rfl rfl rfl rfl) (by simp only [upd, za, zaa]; exact rfl) ?_
          refine zab rfl rfl rfl (zac (.inr rfl) (ev1 rfl)) ?_
          refine zab rfl rfl rfl (zac (.inr rfl) (ev1 rfl)) ?_
          refine zae ?_
          refine zaf ?_
          refine zad ?_
          refine zab rfl rfl rfl (zac (.inl rfl) (ev1 rfl)) ?_
          refine zab rfl rfl rfl (op_eql rfl (ev1 rfl) (ev1 rfl)) ?_
          refine zab rfl rfl rfl (zac (.inl rfl) (ev1 rfl)) ?_
          refine zai (gd_t rfl rfl rfl) rfl rfl rfl (zac (.inl rfl) (ev1 rfl)) ?_
          refine zai (gd_t rfl rfl rfl) rfl rfl rfl (op_eql rfl (ev2 rfl) (ev1 rfl)) ?_
          refine zab rfl rfl rfl (op_and rfl (ev1 rfl) (ev3 rfl id)) ?_
          refine zab rfl rfl rfl (zac (.inl rfl) (ev1 rfl)) ?_
          refine zai (gd_t rfl rfl rfl) rfl rfl rfl (op_ldmw rfl tb41 (ev1 rfl) rfl rfl) ?_
          refine zai (gd_t rfl rfl rfl) rfl rfl rfl (op_ldmw rfl tb41 (ev1 rfl) rfl rfl) ?_
          refine zai (gd_t rfl rfl rfl) rfl rfl rfl (zaj [] [] [] rfl (ev1 rfl) (ec (ev2 rfl) (ec (ev2 rfl) en)) rfl rfl (alike_d e f e f (xc.take 17) (xc.take 17)) rfl rfl rfl rfl rfl rfl) ?_
          refine zab rfl rfl rfl (op_and rfl (ev1 rfl) (ev3 rfl id)) ?_
          refine zab rfl rfl rfl (zac (.inl rfl) (ev1 rfl)) ?_
          refine zai (gd_t rfl rfl rfl) rfl rfl rfl (op_ldmw rfl tb41 (ev1 rfl) rfl rfl) ?_
          refine zai (gd_t rfl rfl rfl) rfl rfl rfl (op_ldmw rfl tb41 (ev1 rfl) rfl rfl) ?_
          refine zai (gd_t rfl rfl rfl) rfl rfl rfl (zaj [] [] [] rfl (ev1 rfl) (ec (ev2 rfl) (ec (ev2 rfl) en)) rfl rfl (alike_d e f e f (xc.take 17) (xc.take 17)) rfl rfl rfl rfl rfl rfl) ?_
          refine zab rfl rfl rfl (op_and rfl (ev1 rfl) (ev3 rfl id)) ?_
          refine zab rfl rfl rfl (zac (.inr rfl) (ev1 rfl)) ?_
          refine zae ?_
          refine dwp_ret ?_
          refine kend0 (rs1 rfl (rv_t rfl)) rfl ?_
          simp
        · refine zad ?_
          refine zab rfl rfl rfl (op_ldmw rfl tb41 (ev1 rfl) rfl rfl) ?_
          refine zab rfl rfl rfl (op_ldmw rfl tb41 (ev1 rfl) rfl rfl) ?_
          refine zab rfl rfl rfl (zaj [] [] [] rfl (ev1 rfl) (ec (ev1 rfl) (ec (ev1 rfl) en)) rfl rfl (ptc_s c d (xb.take 17) e f (xc.take 17) hrU hr3 (fun g => hs2 ⟨g.1.symm, g.2.symm⟩)) rfl rfl rfl rfl rfl rfl) ?_
          refine zab rfl rfl rfl (zac (.inl rfl) (ev1 rfl)) ?_
          refine zab rfl rfl rfl (op_ext rfl (ev1 rfl) rfl) ?_
          refine zab rfl rfl rfl (op_ext rfl (ev1 rfl) rfl) ?_
          refine zab rfl rfl rfl (zac (.inr rfl) (ev1 rfl)) ?_
          refine zab rfl rfl rfl (zac (.inr rfl) (ev1 rfl)) ?_
          refine zae ?_
          refine zaf ?_
          refine zad ?_
          refine zab rfl rfl rfl (op_ldmw rfl tb41 (ev1 rfl) rfl rfl) ?_
          refine zab rfl rfl rfl (op_ldmw rfl tb41 (ev1 rfl) rfl rfl) ?_
          refine zab rfl rfl rfl (zaj [] [] [] rfl (ev1 rfl) (ec (ev1 rfl) (ec (ev1 rfl) en)) rfl rfl (ptc_s c d (xa.take 17) e f (xc.take 17) hrA hr3 (fun g => hs2 ⟨g.1.symm, g.2.symm⟩)) rfl rfl rfl rfl rfl rfl) ?_
          refine zab rfl rfl rfl (zac (.inl rfl) (ev1 rfl)) ?_
          refine zab rfl rfl rfl (op_ext rfl (ev1 rfl) rfl) ?_
          refine zab rfl rfl rfl (op_ext rfl (ev1 rfl) rfl) ?_
          refine zab rfl rfl rfl (zac (.inr rfl) (ev1 rfl)) ?_
          refine zab rfl rfl rfl (zac (.inr rfl) (ev1 rfl)) ?_
          refine zae ?_
          refine zaf ?_
          refine zaf ?_
          refine zad ?_
          refine zab rfl rfl rfl (zac (.inl rfl) (ev1 rfl)) ?_
          refine zab rfl rfl rfl (op_neq rfl (ev1 rfl) (ev1 rfl)) ?_
          refine zab rfl rfl rfl (zac (.inl rfl) (ev1 rfl)) ?_
          refine zai (gd_f rfl rfl rfl) rfl rfl rfl (zac (.inl rfl) (ev1 rfl)) ?_
          refine zai (gd_f rfl rfl rfl) rfl rfl rfl (op_neq rfl (ev2 rfl) (ev1 rfl)) ?_
          refine zab rfl rfl rfl (op_or rfl (ev1 rfl) (ev3 rfl id)) ?_
          refine zae ?_
          refine dwp_if_t rfl (rfl) ?_
          refine zaf ?_
          refine zad ?_
          refine zab rfl rfl rfl (zac (.inl rfl) (ev1 rfl)) ?_
          refine zab rfl rfl rfl (zac (.inl rfl) (ev1 rfl)) ?_
          refine zab rfl rfl rfl (op_eql rfl (ev1 rfl) (ev1 rfl)) ?_
          refine zab rfl rfl rfl (zac (.inl rfl) (ev1 rfl)) ?_
          refine zai (gd_t rfl rfl rfl) rfl rfl rfl (zac (.inl rfl) (ev1 rfl)) ?_
          refine zai (gd_t rfl rfl rfl) rfl rfl rfl (op_len rfl sl23 (evwk (ev2 rfl) (Wk.slf0 1))) ?_
          refine zai (gd_t rfl rfl rfl) rfl rfl rfl (zac (.inl rfl) (ev1 rfl)) ?_
          refine zai (gd_t rfl rfl rfl) rfl rfl rfl (op_len rfl sl23 (evwk (ev2 rfl) (Wk.slf0 1))) ?_
          refine zai (gd_t rfl rfl rfl) rfl rfl rfl (op_add' rfl (ev2 rfl) (ev2 rfl) (fun hp => IntWalk.i64_in _ (by first | omega | (simp at hp; omega)))) ?_
          refine zai (gd_t rfl rfl rfl) rfl rfl rfl (op_eql rfl (ev2 rfl) (ev1 rfl)) ?_
          refine zab rfl rfl rfl (op_and rfl (ev1 rfl) (ev3 rfl id)) ?_
          refine zab rfl rfl rfl (zac (.inr rfl) (ev1 rfl)) ?_
          refine zae ?_
          refine dwp_ret ?_
          refine kend0 (rs1 rfl (rv_t rfl)) rfl ?_
          rfl
      · have hr4 : rightB e f (xc.take 17) = false := by simpa using hr3
        refine zad ?_
        refine zab rfl rfl rfl (op_ldmw rfl tb41 (ev1 rfl) rfl rfl) ?_
        refine zab rfl rfl rfl (op_ldmw rfl tb41 (ev1 rfl) rfl rfl) ?_
        refine zab rfl rfl rfl (zaj [] [] [] rfl (ev1 rfl) (ec (ev1 rfl) (ec (ev1 rfl) en)) rfl rfl (ptc_n c d (xb.take 17) e f (xc.take 17) (by rw [hr4, Bool.and_false])) rfl rfl rfl rfl rfl rfl) ?_
        refine zab rfl rfl rfl (zac (.inl rfl) (ev1 rfl)) ?_
        refine zab rfl rfl rfl (op_ext rfl (ev1 rfl) rfl) ?_
        refine zab rfl rfl rfl (op_ext rfl (ev1 rfl) rfl) ?_
        refine zab rfl rfl rfl (zac (.inr rfl) (ev1 rfl)) ?_
        refine zab rfl rfl rfl (zac (.inr rfl) (ev1 rfl)) ?_
        refine zae ?_
        refine zaf ?_
        refine zad ?_
        refine zab rfl rfl rfl (op_ldmw rfl tb41 (ev1 rfl) rfl rfl) ?_
        refine zab rfl rfl rfl (op_ldmw rfl tb41 (ev1 rfl) rfl rfl) ?_
        refine zab rfl rfl rfl (zaj [] [] [] rfl (ev1 rfl) (ec (ev1 rfl) (ec (ev1 rfl) en)) rfl rfl (ptc_n c d (xa.take 17) e f (xc.take 17) (by rw [hr4, Bool.and_false])) rfl rfl rfl rfl rfl rfl) ?_
        refine zab rfl rfl rfl (zac (.inl rfl) (ev1 rfl)) ?_
        refine zab rfl rfl rfl (op_ext rfl (ev1 rfl) rfl) ?_
        refine zab rfl rfl rfl (op_ext rfl (ev1 rfl) rfl) ?_
        refine zab rfl rfl rfl (zac (.inr rfl) (ev1 rfl)) ?_
        refine zab rfl rfl rfl (zac (.inr rfl) (ev1 rfl)) ?_
        refine zae ?_
        refine zaf ?_
        refine zaf ?_
        refine zad ?_
        refine zab rfl rfl rfl (zac (.inl rfl) (ev1 rfl)) ?_
        refine zab rfl rfl rfl (op_neq rfl (ev1 rfl) (ev1 rfl)) ?_
        refine zab rfl rfl rfl (zac (.inl rfl) (ev1 rfl)) ?_
        refine zai (gd_f rfl rfl rfl) rfl rfl rfl (zac (.inl rfl) (ev1 rfl)) ?_
        refine zai (gd_f rfl rfl rfl) rfl rfl rfl (op_neq rfl (ev2 rfl) (ev1 rfl)) ?_
        refine zab rfl rfl rfl (op_or rfl (ev1 rfl) (ev3 rfl id)) ?_
        refine zae ?_
        refine dwp_if_t rfl (rfl) ?_
        refine zaf ?_
        refine zad ?_
        refine zab rfl rfl rfl (zac (.inl rfl) (ev1 rfl)) ?_
        refine zab rfl rfl rfl (zac (.inl rfl) (ev1 rfl)) ?_
        refine zab rfl rfl rfl (op_eql rfl (ev1 rfl) (ev1 rfl)) ?_
        refine zab rfl rfl rfl (zac (.inl rfl) (ev1 rfl)) ?_
        refine zai (gd_t rfl rfl rfl) rfl rfl rfl (zac (.inl rfl) (ev1 rfl)) ?_
        refine zai (gd_t rfl rfl rfl) rfl rfl rfl (op_len rfl sl23 (evwk (ev2 rfl) (Wk.slf0 1))) ?_
        refine zai (gd_t rfl rfl rfl) rfl rfl rfl (zac (.inl rfl) (ev1 rfl)) ?_
        refine zai (gd_t rfl rfl rfl) rfl rfl rfl (op_len rfl sl23 (evwk (ev2 rfl) (Wk.slf0 1))) ?_
        refine zai (gd_t rfl rfl rfl) rfl rfl rfl (op_add' rfl (ev2 rfl) (ev2 rfl) (fun hp => IntWalk.i64_in _ (by first | omega | (simp at hp; omega)))) ?_
        refine zai (gd_t rfl rfl rfl) rfl rfl rfl (op_eql rfl (ev2 rfl) (ev1 rfl)) ?_
        refine zab rfl rfl rfl (op_and rfl (ev1 rfl) (ev3 rfl id)) ?_
        refine zab rfl rfl rfl (zac (.inr rfl) (ev1 rfl)) ?_
        refine zae ?_
        refine dwp_ret ?_
        refine kend0 (rs1 rfl (rv_t rfl)) rfl ?_
        rfl
    · rw [Bool.and_eq_true] at hr
      refine zad ?_
      refine zab rfl rfl rfl (op_ldmw rfl tb41 (ev1 rfl) rfl rfl) ?_
      refine zab rfl rfl rfl (op_ldmw rfl tb41 (ev1 rfl) rfl rfl) ?_
      refine zab rfl rfl rfl (zaj [] [] [] rfl (ev1 rfl) (ec (ev1 rfl) (ec (ev1 rfl) en)) rfl rfl (ptc_s a b (xa.take 17) c d (xb.take 17) hr.1 hr.2 (fun e => hs ⟨e.1.symm, e.2.symm⟩)) rfl rfl rfl rfl rfl rfl) ?_
      refine zab rfl rfl rfl (zac (.inl rfl) (ev1 rfl)) ?_
      refine zab rfl rfl rfl (op_ext rfl (ev1 rfl) rfl) ?_
      refine zab rfl rfl rfl (op_ext rfl (ev1 rfl) rfl) ?_
      refine zab rfl rfl rfl (zac (.inr rfl) (ev1 rfl)) ?_
      refine zab rfl rfl rfl (zac (.inr rfl) (ev1 rfl)) ?_
      refine zae ?_
      refine zaf ?_
      refine zaf ?_
      refine zad ?_
      refine zab rfl rfl rfl (zac (.inl rfl) (ev1 rfl)) ?_
      refine zab rfl rfl rfl (op_neq rfl (ev1 rfl) (ev1 rfl)) ?_
      refine zae ?_
      refine dwp_if_t rfl (rfl) ?_
      refine zaf ?_
      refine zad ?_
      refine zab rfl rfl rfl (zac (.inl rfl) (ev1 rfl)) ?_
      refine zab rfl rfl rfl (op_len rfl sl23 (evwk (ev1 rfl) (Wk.slf0 1))) ?_
      refine zab rfl rfl rfl (op_eql rfl (ev1 rfl) (ev1 rfl)) ?_
      refine zab rfl rfl rfl (zac (.inr rfl) (ev1 rfl)) ?_
      refine zae ?_
      refine dwp_ret ?_
      refine kend0 (rs1 rfl (rv_t rfl)) rfl ?_
      rfl
  · have hr2 : (rightB a b (xa.take 17) && rightB c d (xb.take 17)) = false := by simpa using hr
    refine zad ?_
    refine zab rfl rfl rfl (op_ldmw rfl tb41 (ev1 rfl) rfl rfl) ?_
    refine zab rfl rfl rfl (op_ldmw rfl tb41 (ev1 rfl) rfl rfl) ?_
    refine zab rfl rfl rfl (zaj [] [] [] rfl (ev1 rfl) (ec (ev1 rfl) (ec (ev1 rfl) en)) rfl rfl (ptc_n a b (xa.take 17) c d (xb.take 17) hr2) rfl rfl rfl rfl rfl rfl) ?_
    refine zab rfl rfl rfl (zac (.inl rfl) (ev1 rfl)) ?_
    refine zab rfl rfl rfl (op_ext rfl (ev1 rfl) rfl) ?_
    refine zab rfl rfl rfl (op_ext rfl (ev1 rfl) rfl) ?_
    refine zab rfl rfl rfl (zac (.inr rfl) (ev1 rfl)) ?_
    refine zab rfl rfl rfl (zac (.inr rfl) (ev1 rfl)) ?_
    refine zae ?_
    refine zaf ?_
    refine zaf ?_
    refine zad ?_
    refine zab rfl rfl rfl (zac (.inl rfl) (ev1 rfl)) ?_
    refine zab rfl rfl rfl (op_neq rfl (ev1 rfl) (ev1 rfl)) ?_
    refine zae ?_
    refine dwp_if_t rfl (rfl) ?_
    refine zaf ?_
    refine zad ?_
    refine zab rfl rfl rfl (zac (.inl rfl) (ev1 rfl)) ?_
    refine zab rfl rfl rfl (op_len rfl sl23 (evwk (ev1 rfl) (Wk.slf0 1))) ?_
    refine zab rfl rfl rfl (op_eql rfl (ev1 rfl) (ev1 rfl)) ?_
    refine zab rfl rfl rfl (zac (.inr rfl) (ev1 rfl)) ?_
    refine zae ?_
    refine dwp_ret ?_
    refine kend0 (rs1 rfl (rv_t rfl)) rfl ?_
    rfl
end Go.Proofs.Ytcbfnbfhlofkiaa
